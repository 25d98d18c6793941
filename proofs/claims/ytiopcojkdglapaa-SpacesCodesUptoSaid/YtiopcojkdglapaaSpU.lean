/- LAYER 18 (spaces): one, Check, Find, May of the reference. -/
import Derived.Test.YtiopcojkdglapaaSpO
import Derived.Test.YtiopcojkdglapaaNumsW
import Derived.Test.YtiopcojkdglapaaRf
set_option linter.unusedSimpArgs false
set_option linter.unusedVariables false
namespace Go.Proofs.Ytiopcojkdglapaa.W
open Go Go.ChangeShapes Go.WideShapes Go.ChangeAt Go.RowKit
open Go.Proofs.Ytiopcojkdglapaa.P (enc dec)

theorem Row.sp3c {w : World} {g : Nat} {t : TypeId} {a b c : Value} (h : Row w g t [a, b, c]) : w.cell? ⟨g, 0, none⟩ = some a ∧ w.cell? ⟨g, 1, none⟩ = some b ∧ w.cell? ⟨g, 2, none⟩ = some c := by
  refine ⟨?_, ?_, ?_⟩ <;> (rw [h.cellV]; rfl)
set_option maxHeartbeats 400000 in
theorem zwithin (n lo hi : Int) (w : World) : Calls Try.prog 133 #[.int .i64 n, .int .i64 lo, .int .i64 hi] w fun e w' => e = .returned (.bool (inS n lo hi)) ∧ w = w' := by
  by_cases h1 : lo ≤ n <;> by_cases h2 : n ≤ hi
  all_goals
    go_enter Try.func133, Try.ntmps133
    go_wp2
    go_ret
    exact ⟨one (vbool (by unfold inS; simp [h1, h2])), rfl⟩
theorem sp3 : ∀ b0 b1 b2 : Bool, (b0 = false) ∨ (b0 = true ∧ b1 = false) ∨ (b0 = true ∧ b1 = true ∧ b2 = false) ∨ (b0 = true ∧ b1 = true ∧ b2 = true) := by
  intro b0 b1 b2
  cases b0 <;> cases b1 <;> cases b2 <;> simp
set_option maxRecDepth 100000 in
set_option maxHeartbeats 4000000 in
theorem zone (s : Sp) (w : World) (h : s.fit) : Calls Try.prog 75 #[.agg s.cells.toArray] w fun x w' => x = .returned (.bool s.ok) ∧ Below w.heap.size w w' := by
  obtain ⟨nm, rd, wr⟩ := s
  have HN := Lib.hid (fun w => uname nm w h.1)
  obtain ⟨b0, h0⟩ : ∃ b, nameV nm = b := ⟨_, rfl⟩
  obtain ⟨b1, h1⟩ : ∃ b, inS rd 0 255 = b := ⟨_, rfl⟩
  obtain ⟨b2, h2⟩ : ∃ b, inS wr 0 255 = b := ⟨_, rfl⟩
  have HX := Lib.hid (show Sp.ok ⟨nm, rd, wr⟩ = (b0 && (b1 && b2)) by unfold Sp.ok; rw [h0, h1, h2])
  rw [h0] at HN
  have H1 := Lib.hid h1
  have H2 := Lib.hid h2
  clear h h0 h1 h2
  rw [show (Sp.cells ⟨nm, rd, wr⟩) = [.string nm, .int .i64 rd, .int .i64 wr] from rfl]
  rcases sp3 b0 b1 b2 with rfl | ⟨rfl, rfl⟩ | ⟨rfl, rfl, rfl⟩ | ⟨rfl, rfl, rfl⟩
  all_goals
    go_enter Try.func75, Try.ntmps75
    go_wp2_with (first
      | (with_reducible refine box_row (o := ⟨some 1, _, _, _, _, _⟩) rfl _ _ rfl [.string nm, .int .i64 rd, .int .i64 wr] rfl ?_; intro w1 hr1 hb1 hz1; have R1 := Lib.hid hr1; obtain ⟨c0, c1, c2⟩ := hr1.sp3c; have B1 := Lib.hid hb1; clear hr1 hb1 hz1)
      | (go_at_call 132; with_reducible refine (HN.out _).mono ?_; rintro x w' ⟨rfl, rfl⟩)
      | (go_at_call 133; with_reducible refine (zwithin rd 0 255 _).mono ?_; rw [H1.out]; rintro x w' ⟨rfl, rfl⟩)
      | (go_at_call 133; with_reducible refine (zwithin wr 0 255 _).mono ?_; rw [H2.out]; rintro x w' ⟨rfl, rfl⟩))
    go_ret
    exact ⟨one (vbool (by rw [HX.out]; simp)), B1.out⟩
-- ---- Find
theorem find_take (L : List Sp) (n : ByteArray) : ∀ k, k ≤ L.length → (∀ i, i < k → ∀ x, L[i]? = some x → eqB x.name n = false) → findV L n = findV (L.drop k) n := by
  intro k
  induction k with
  | zero => intro _ _; rfl
  | succ k ih =>
    intro hk h
    rw [ih (by omega) (fun i hi => h i (by omega))]
    have hd : L.drop k = L[k] :: L.drop (k + 1) := List.drop_eq_getElem_cons (by omega)
    rw [hd]
    simp only [findV]
    rw [h k (by omega) L[k] (by simp [show k < L.length by omega])]
    simp
set_option maxRecDepth 100000 in
set_option maxHeartbeats 4000000 in
theorem zfind (a : Option Addr) (n c : Nat) (L : List Sp) (nm : ByteArray) (w : World) (h : Ls spE w a n c L) :
    Calls Try.prog 20 #[.slice a n c, .string nm] w fun x w' => x = .returned (.tuple #[.agg (findV L nm).1.cells.toArray, .bool (findV L nm).2]) ∧ Below w.heap.size w w' := by
  have H := Lib.hid h
  have HL := Lib.hid h.hlen
  have hm := h.hmax
  have hle := h.hle
  have SZ := Lib.hid sp_size
  have MZ := Lib.hid sp_zero
  clear h
  go_enter Try.func20, Try.ntmps20
  go_wp2_with (first
    | ((with_reducible refine alloc_row (o := ⟨some 4, _, _, _, _, _⟩) rfl _ rfl _ MZ.out ?_); intro w1 hr hb hz; have R1 := Lib.hid hr; have B1 := Lib.hid hb; clear hr hb hz))
  go_loopw [6] (fun i wr => ∃ k : Nat, i = .int .i64 (k : Int) ∧ k ≤ n ∧ wr = w1 ∧ Hid (∀ i, i < k → ∀ x, L[i]? = some x → eqB x.name nm = false)) (fun i _ => n - (intOf i).toNat)
  case atStart => exact ⟨0, rfl, Nat.zero_le _, rfl, Lib.hid (fun i hi => absurd hi (Nat.not_lt_zero _))⟩
  case round =>
    obtain ⟨k, rfl, hk, rfl, P⟩ := hrel
    by_cases hlt : k < n
    · obtain ⟨b, off, x, rfl, hx, hcell, -⟩ := H.out.at spOk B1.out k hlt
      obtain ⟨xn, xr, xw⟩ := x
      have e0 := hcell 0 _ rfl
      have e1 := hcell 1 _ rfl
      have e2 := hcell 2 _ rfl
      have XC := Lib.hid hcell
      have HX := Lib.hid hx
      rw [show off + k * spE.k + 0 = off + k * 3 from rfl] at e0
      have g1 : (0 : Int) ≤ (k : Int) := by omega
      have g2 : (k : Int) < (n : Int) := by omega
      clear hx hcell e1 e2
      by_cases he : eqB xn nm = true
      · have he2 : (xn.toList == nm.toList) = true := he
        have HF := Lib.hid (show findV L nm = (⟨xn, xr, xw⟩, true) by
          rw [find_take L nm k (by rw [HL.out]; omega) P.out]
          have hd : L.drop k = ⟨xn, xr, xw⟩ :: L.drop (k + 1) := by
            have hk2 : k < L.length := by rw [HL.out]; exact hlt
            rw [List.drop_eq_getElem_cons hk2]
            have := HX.out
            rw [List.getElem?_eq_getElem hk2] at this
            rw [Option.some.inj this]
          rw [hd]
          simp only [findV]
          rw [if_pos he])
        clear he
        go_wp2_with (first
          | ((with_reducible refine load_cells (o := ⟨some 23, _, _, _, _, _⟩) rfl _ _ rfl b (off + k * 3) ?_ [.string xn, .int .i64 xr, .int .i64 xw] _ XC.out Try.underlying24 rfl ?_ ?_); (focus go_simp); (focus (exact SZ.out)))
          | ((with_reducible refine store_row (o := ⟨none, _, _, _, _, _⟩) rfl _ (.tmp 4) _ rfl w.heap.size [.string xn, .int .i64 xr, .int .i64 xw] ?_ ?_ 24 _ R1.out ?_ ?_ ?_ ?_); (focus go_simp); (focus (first | (go_simp; done) | (go_simp; rfl))); (focus (exact SZ.out)); (focus rfl); (focus (exact sp_one ⟨xn, xr, xw⟩)); intro w2 hr2 hu2; have R2 := Lib.hid hr2; have B2 := Lib.hid (B1.out.trans (hu2.below (Nat.le_refl _))); clear hr2 hu2))
        exact bodyPost_ret (results_row_tmp rfl _ _ w.heap.size 24 _ _ _ (by go_simp) R2.out Try.underlying24 rfl SZ.out) rfl ⟨by rw [HF.out]; rfl, B2.out⟩
      · have he2 : (xn.toList == nm.toList) = false := by
          have : eqB xn nm = false := by simpa using he
          exact this
        have HP := Lib.hid (show ∀ i, i < k + 1 → ∀ x, L[i]? = some x → eqB x.name nm = false from fun i hi x hx => by
          by_cases hik : i < k
          · exact P.out i hik x hx
          · obtain rfl : i = k := by omega
            rw [HX.out] at hx
            injection hx with hx
            subst hx
            simpa using he)
        clear he
        go_wp2_with fail
        go_roundw
        case rel => exact ⟨k + 1, vint (by omega), by omega, by first | rfl | trivial, HP⟩
        case measure => simp [intOf]; omega
    · obtain rfl : n = k := by omega
      have HF := Lib.hid (show findV L nm = (spZ, false) by
        rw [find_take L nm n (by rw [HL.out]; exact Nat.le_refl _) P.out, List.drop_of_length_le (by rw [HL.out]; exact Nat.le_refl _)]; rfl)
      go_wp2_with (first
        | ((with_reducible refine build_row (o := ⟨some 24, _, _, _, _, _⟩) rfl _ _ rfl (Sp.cells ⟨⟨#[]⟩, 0, 0⟩) ?_ ?_); (focus (go_simp; kernel_rfl)))
        | ((with_reducible refine store_row (o := ⟨none, _, _, _, _, _⟩) rfl _ (.tmp 4) _ rfl w.heap.size (Sp.cells ⟨⟨#[]⟩, 0, 0⟩) ?_ ?_ 24 _ R1.out ?_ ?_ ?_ ?_); (focus go_simp); (focus (first | (go_simp; done) | (go_simp; rfl))); (focus (exact SZ.out)); (focus rfl); (focus (exact sp_one _)); intro w2 hr2 hu2; have R2 := Lib.hid hr2; have B2 := Lib.hid (B1.out.trans (hu2.below (Nat.le_refl _))); clear hr2 hu2))
      exact bodyPost_ret (results_row_tmp rfl _ _ w.heap.size 24 _ _ _ (by go_simp) R2.out Try.underlying24 rfl SZ.out) rfl ⟨by rw [HF.out]; rfl, B2.out⟩
-- ---- Check
theorem chk_take : ∀ (L : List Sp) (p : Option Sp) (k : Nat), chkS p (L.take k) = false → chkS p L = false
  | [], _, _, h => by simpa using h
  | s :: L, p, 0, h => by simp [chkS] at h
  | s :: L, p, k + 1, h => by
    simp only [List.take_succ_cons, chkS] at h ⊢
    cases h1 : s.ok
    · rfl
    · rw [h1] at h
      simp only [Bool.true_and] at h ⊢
      cases h2 : behindV p s
      · rfl
      · rw [h2] at h
        simp only [Bool.true_and] at h ⊢
        exact chk_take L (some s) k h
theorem chk_snoc : ∀ (L : List Sp) (p : Option Sp) (s : Sp), chkS p (L ++ [s]) = (chkS p L && (s.ok && behindV (L.getLast?.or p) s))
  | [], p, s => by simp [chkS]
  | x :: L, p, s => by
    simp only [List.cons_append, chkS]
    rw [chk_snoc L (some x) s]
    have : (x :: L).getLast?.or p = L.getLast?.or (some x) := by
      cases L with
      | nil => simp
      | cons y L => simp [List.getLast?_cons]
    rw [this]
    simp only [Bool.and_assoc]
theorem chk_next (L : List Sp) (k : Nat) (s : Sp) (hs : L[k]? = some s) : chkS none (L.take (k + 1)) = (chkS none (L.take k) && (s.ok && behindV (if k = 0 then none else L[k - 1]?) s)) := by
  have hk : k < L.length := (List.getElem?_eq_some_iff.1 hs).1
  have h1 : L.take (k + 1) = L.take k ++ [s] := by
    rw [List.take_succ_eq_append_getElem hk]
    rw [List.getElem?_eq_getElem hk] at hs
    rw [Option.some.inj hs]
  rw [h1, chk_snoc]
  congr 3
  rcases k with _ | k
  · simp
  · have : (L.take (k + 1)).getLast? = L[k]? := by
      rw [List.getLast?_eq_getElem?, List.length_take, Nat.min_eq_left (by omega)]
      simp
    rw [this, if_neg (by omega)]
    simp only [Nat.add_sub_cancel, Option.or_none]
end Go.Proofs.Ytiopcojkdglapaa.W
