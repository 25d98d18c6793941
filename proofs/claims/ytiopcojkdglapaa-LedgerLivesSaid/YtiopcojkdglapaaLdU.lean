/- LAYER 19 (ledger): in, one, Find, Check of the reference. -/
import Derived.Test.YtiopcojkdglapaaLdP
import Derived.Test.YtiopcojkdglapaaRun
import Derived.Test.YtiopcojkdglapaaRf
import Derived.DeepKeys
set_option linter.unusedSimpArgs false
set_option linter.unusedVariables false
namespace Go.Proofs.Ytiopcojkdglapaa.W
open Go Go.ChangeShapes Go.WideShapes Go.ChangeAt Go.RowKit
open Go.Proofs.Ytiopcojkdglapaa.P (enc dec)

theorem Row.h6 {w : World} {g : Nat} {t : TypeId} {a b c d e f : Value} (h : Row w g t [a, b, c, d, e, f]) : w.cell? ⟨g, 0, none⟩ = some a ∧ w.cell? ⟨g, 1, none⟩ = some b ∧ w.cell? ⟨g, 2, none⟩ = some c ∧ w.cell? ⟨g, 3, none⟩ = some d ∧ w.cell? ⟨g, 4, none⟩ = some e ∧ w.cell? ⟨g, 5, none⟩ = some f := by
  refine ⟨?_, ?_, ?_, ?_, ?_, ?_⟩ <;> (rw [h.cellV]; rfl)
theorem Row.l5 {w : World} {g : Nat} {t : TypeId} {a b c d e : Value} (h : Row w g t [a, b, c, d, e]) : w.cell? ⟨g, 0, none⟩ = some a ∧ w.cell? ⟨g, 1, none⟩ = some b ∧ w.cell? ⟨g, 2, none⟩ = some c ∧ w.cell? ⟨g, 3, none⟩ = some d ∧ w.cell? ⟨g, 4, none⟩ = some e := by
  refine ⟨?_, ?_, ?_, ?_, ?_⟩ <;> (rw [h.cellV]; rfl)
set_option maxHeartbeats 400000 in
theorem yin (n lo hi : Int) (w : World) : Calls Try.prog 94 #[.int .i64 n, .int .i64 lo, .int .i64 hi] w fun e w' => e = .returned (.bool (in64 n lo hi)) ∧ w = w' := by
  by_cases h1 : lo ≤ n <;> by_cases h2 : n ≤ hi
  all_goals
    go_enter Try.func94, Try.ntmps94
    go_wp2
    go_ret
    exact ⟨one (vbool (by unfold in64; simp [h1, h2])), rfl⟩
theorem bs6 : ∀ b0 b1 b2 b3 b4 b5 : Bool, (b0 = false) ∨ (b0 = true ∧ b1 = false) ∨ (b0 = true ∧ b1 = true ∧ b2 = false) ∨ (b0 = true ∧ b1 = true ∧ b2 = true ∧ b3 = false) ∨ (b0 = true ∧ b1 = true ∧ b2 = true ∧ b3 = true ∧ b4 = false) ∨ (b0 = true ∧ b1 = true ∧ b2 = true ∧ b3 = true ∧ b4 = true ∧ b5 = false) ∨ (b0 = true ∧ b1 = true ∧ b2 = true ∧ b3 = true ∧ b4 = true ∧ b5 = true) := by
  intro b0 b1 b2 b3 b4 b5
  cases b0 <;> cases b1 <;> cases b2 <;> cases b3 <;> cases b4 <;> cases b5 <;> simp
set_option maxRecDepth 100000 in
set_option maxHeartbeats 8000000 in
theorem yone (s : Hd) (w : World) (h : s.fit) : Calls Try.prog 95 #[.agg s.cells.toArray] w fun x w' => x = .returned (.bool s.ok) ∧ Below w.heap.size w w' := by
  obtain ⟨i1, i2, i3, i4, i5, sp⟩ := s
  have HN := Lib.hid (fun w => uname sp w h.sp)
  obtain ⟨b0, h0⟩ : ∃ b, in64 i1 1 2147483648 = b := ⟨_, rfl⟩
  obtain ⟨b1, h1⟩ : ∃ b, in64 i2 0 7 = b := ⟨_, rfl⟩
  obtain ⟨b2, h2⟩ : ∃ b, in64 i3 0 1099511627776 = b := ⟨_, rfl⟩
  obtain ⟨b3, h3⟩ : ∃ b, in64 i4 0 1099511627776 = b := ⟨_, rfl⟩
  obtain ⟨b4, h4⟩ : ∃ b, in64 i5 0 1099511627776 = b := ⟨_, rfl⟩
  obtain ⟨b5, h5⟩ : ∃ b, nameV sp = b := ⟨_, rfl⟩
  have HX := Lib.hid (show Hd.ok ⟨i1, i2, i3, i4, i5, sp⟩ = (b0 && (b1 && (b2 && (b3 && (b4 && b5))))) by unfold Hd.ok T31 T40; rw [h0, h1, h2, h3, h4, h5])
  rw [h5] at HN
  have H0 := Lib.hid h0
  have H1 := Lib.hid h1
  have H2 := Lib.hid h2
  have H3 := Lib.hid h3
  have H4 := Lib.hid h4
  clear h h0 h1 h2 h3 h4 h5
  rw [show (Hd.cells ⟨i1, i2, i3, i4, i5, sp⟩) = [.int .i64 i1, .int .i64 i2, .int .i64 i3, .int .i64 i4, .int .i64 i5, .string sp] from rfl]
  rcases bs6 b0 b1 b2 b3 b4 b5 with rfl | ⟨rfl, rfl⟩ | ⟨rfl, rfl, rfl⟩ | ⟨rfl, rfl, rfl, rfl⟩ | ⟨rfl, rfl, rfl, rfl, rfl⟩ | ⟨rfl, rfl, rfl, rfl, rfl, rfl⟩ | ⟨rfl, rfl, rfl, rfl, rfl, rfl⟩
  all_goals
    go_enter Try.func95, Try.ntmps95
    go_wp2_with (first
      | (with_reducible refine box_row (o := ⟨some 1, _, _, _, _, _⟩) rfl _ _ rfl [.int .i64 i1, .int .i64 i2, .int .i64 i3, .int .i64 i4, .int .i64 i5, .string sp] rfl ?_; intro w1 hr1 hb1 hz1; have R1 := Lib.hid hr1; obtain ⟨c0, c1, c2, c3, c4, c5⟩ := hr1.h6; have B1 := Lib.hid hb1; clear hr1 hb1 hz1)
      | (go_at_call 132; with_reducible refine (HN.out _).mono ?_; rintro x w' ⟨rfl, rfl⟩)
      | (go_at_call 94; with_reducible refine (yin i1 1 2147483648 _).mono ?_; rw [H0.out]; rintro x w' ⟨rfl, rfl⟩)
      | (go_at_call 94; with_reducible refine (yin i2 0 7 _).mono ?_; rw [H1.out]; rintro x w' ⟨rfl, rfl⟩)
      | (go_at_call 94; with_reducible refine (yin i3 0 1099511627776 _).mono ?_; rw [H2.out]; rintro x w' ⟨rfl, rfl⟩)
      | (go_at_call 94; with_reducible refine (yin i4 0 1099511627776 _).mono ?_; rw [H3.out]; rintro x w' ⟨rfl, rfl⟩)
      | (go_at_call 94; with_reducible refine (yin i5 0 1099511627776 _).mono ?_; rw [H4.out]; rintro x w' ⟨rfl, rfl⟩))
    go_ret
    exact ⟨one (vbool (by rw [HX.out]; simp)), B1.out⟩
-- ---- Find
theorem findH_take (L : List Hd) (n : Int) : ∀ k, k ≤ L.length → (∀ i, i < k → ∀ x, L[i]? = some x → x.id ≠ n) → findH L n = findH (L.drop k) n := by
  intro k
  induction k with
  | zero => intro _ _; rfl
  | succ k ih =>
    intro hk h
    rw [ih (by omega) (fun i hi => h i (by omega))]
    have hd : L.drop k = L[k] :: L.drop (k + 1) := List.drop_eq_getElem_cons (by omega)
    rw [hd]
    simp only [findH]
    rw [if_neg (h k (by omega) L[k] (by simp [show k < L.length by omega]))]
set_option maxRecDepth 100000 in
set_option maxHeartbeats 4000000 in
theorem yfind (q u h' nx : Int) (a : Option Addr) (n c : Nat) (L : List Hd) (nm : Int) (w : World) (h : Ls hdE w a n c L) :
    Calls Try.prog 47 #[.agg (ldC q u h' nx a n c).toArray, .int .i64 nm] w fun x w' => x = .returned (.tuple #[.agg (findH L nm).1.cells.toArray, .bool (findH L nm).2]) ∧ Below w.heap.size w w' := by
  have H := Lib.hid h
  have HL := Lib.hid h.hlen
  have hm := h.hmax
  have hle := h.hle
  have SZ := Lib.hid hd_size
  have MZ := Lib.hid hd_zero
  clear h
  go_enter Try.func47, Try.ntmps47
  go_wp2_with (first
    | ((with_reducible refine box_row (o := ⟨some 2, _, _, _, _, _⟩) rfl _ _ rfl (ldC q u h' nx a n c) rfl ?_); intro w0 hr hb hz; have hs0 := hz; have R0 := Lib.hid hr; have B0 := Lib.hid hb; clear hr hb hz)
    | ((with_reducible refine alloc_row (o := ⟨some 4, _, _, _, _, _⟩) rfl _ rfl _ MZ.out ?_); intro w1 hr hb hz; have R1 := Lib.hid hr; have RL := Lib.hid (R0.out.below hb R0.out.lt); obtain ⟨c0, c1, c2, c3, c4⟩ := RL.out.l5; have B1 := Lib.hid (B0.out.trans (hb.mono B0.out.size)); clear hr hb hz c0 c1 c2 c3))
  go_loopw [6] (fun i wr => ∃ k : Nat, i = .int .i64 (k : Int) ∧ k ≤ n ∧ wr = w1 ∧ Hid (∀ i, i < k → ∀ x, L[i]? = some x → x.id ≠ nm)) (fun i _ => n - (intOf i).toNat)
  case atStart => exact ⟨0, rfl, Nat.zero_le _, rfl, Lib.hid (fun i hi => absurd hi (Nat.not_lt_zero _))⟩
  case round =>
    obtain ⟨k, rfl, hk, rfl, P⟩ := hrel
    by_cases hlt : k < n
    · obtain ⟨b, off, x, rfl, hx, hcell, -⟩ := H.out.at hdOk B1.out k hlt
      obtain ⟨i1, i2, i3, i4, i5, sp⟩ := x
      have e0 := hcell 0 _ rfl
      have XC := Lib.hid hcell
      have HX := Lib.hid hx
      rw [show off + k * hdE.k + 0 = off + k * 6 from rfl] at e0
      have g1 : (0 : Int) ≤ (k : Int) := by omega
      have g2 : (k : Int) < (n : Int) := by omega
      clear hx hcell
      by_cases he : i1 = nm
      · have HF := Lib.hid (show findH L nm = (⟨i1, i2, i3, i4, i5, sp⟩, true) by
          rw [findH_take L nm k (by rw [HL.out]; omega) P.out]
          have hd : L.drop k = ⟨i1, i2, i3, i4, i5, sp⟩ :: L.drop (k + 1) := by
            have hk2 : k < L.length := by rw [HL.out]; exact hlt
            rw [List.drop_eq_getElem_cons hk2]
            have := HX.out
            rw [List.getElem?_eq_getElem hk2] at this
            rw [Option.some.inj this]
          rw [hd]
          simp only [findH]
          rw [if_pos he])
        go_wp2_with (first
          | ((with_reducible refine load_cells (o := ⟨some 26, _, _, _, _, _⟩) rfl _ _ rfl b (off + k * 6) ?_ [.int .i64 i1, .int .i64 i2, .int .i64 i3, .int .i64 i4, .int .i64 i5, .string sp] _ XC.out Try.underlying52 rfl ?_ ?_); (focus go_simp); (focus (exact SZ.out)))
          | ((with_reducible refine store_row (o := ⟨none, _, _, _, _, _⟩) rfl _ (.tmp 4) _ rfl w0.heap.size [.int .i64 i1, .int .i64 i2, .int .i64 i3, .int .i64 i4, .int .i64 i5, .string sp] ?_ ?_ 52 _ R1.out ?_ ?_ ?_ ?_); (focus go_simp); (focus (first | (go_simp; done) | (go_simp; rfl))); (focus (exact SZ.out)); (focus rfl); (focus (exact hd_one ⟨i1, i2, i3, i4, i5, sp⟩)); intro w2 hr2 hu2; have R2 := Lib.hid hr2; have B2 := Lib.hid (B1.out.trans (hu2.below B0.out.size)); clear hr2 hu2))
        exact bodyPost_ret (results_row_tmp rfl _ _ w0.heap.size 52 _ _ _ (by go_simp) R2.out Try.underlying52 rfl SZ.out) rfl ⟨by rw [HF.out]; rfl, B2.out⟩
      · have HP := Lib.hid (show ∀ i, i < k + 1 → ∀ x, L[i]? = some x → x.id ≠ nm from fun i hi x hx => by
          by_cases hik : i < k
          · exact P.out i hik x hx
          · obtain rfl : i = k := by omega
            rw [HX.out] at hx
            injection hx with hx
            subst hx
            exact he)
        go_wp2_with fail
        go_roundw
        case rel => exact ⟨k + 1, vint (by omega), by omega, by first | rfl | trivial, HP⟩
        case measure => simp [intOf]; omega
    · obtain rfl : n = k := by omega
      have HF := Lib.hid (show findH L nm = (hdZ, false) by
        rw [findH_take L nm n (by rw [HL.out]; exact Nat.le_refl _) P.out, List.drop_of_length_le (by rw [HL.out]; exact Nat.le_refl _)]; rfl)
      go_wp2_with (first
        | ((with_reducible refine build_row (o := ⟨some 27, _, _, _, _, _⟩) rfl _ _ rfl (Hd.cells hdZ) ?_ ?_); (focus (go_simp; kernel_rfl)))
        | ((with_reducible refine store_row (o := ⟨none, _, _, _, _, _⟩) rfl _ (.tmp 4) _ rfl w0.heap.size (Hd.cells hdZ) ?_ ?_ 52 _ R1.out ?_ ?_ ?_ ?_); (focus go_simp); (focus (first | (go_simp; done) | (go_simp; rfl))); (focus (exact SZ.out)); (focus rfl); (focus (exact hd_one _)); intro w2 hr2 hu2; have R2 := Lib.hid hr2; have B2 := Lib.hid (B1.out.trans (hu2.below B0.out.size)); clear hr2 hu2))
      exact bodyPost_ret (results_row_tmp rfl _ _ w0.heap.size 52 _ _ _ (by go_simp) R2.out Try.underlying52 rfl SZ.out) rfl ⟨by rw [HF.out]; rfl, B2.out⟩
end Go.Proofs.Ytiopcojkdglapaa.W
