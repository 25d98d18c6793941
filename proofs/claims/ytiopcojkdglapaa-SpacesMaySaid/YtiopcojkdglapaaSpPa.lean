/- LAYER 18 (spaces): the program's fits, its closures, slices.IndexFunc, Find, May. LAYER 18 (spaces): Check of the program. LAYER 18 (spaces): Find, May of the program. LAYER 18 (spaces): slices.Insert at a list of one's own. LAYER 18 (spaces): Set of the program. LAYER 18 (spaces): Put, Same, Read of the program. LAYER 18 (spaces): Read of the program. LAYER 18 (spaces): slices.Grow, slices.Concat, slices.IndexFunc (above), lists.Insert of spaces; Set of the program. -/
import Derived.Test.YtiopcojkdglapaaSpE
import Derived.Laws.Externs
import Derived.Test.YtiopcojkdglapaaSpC
import Derived.Test.YtiopcojkdglapaaSpF
import Derived.Test.YtiopcojkdglapaaSlg
import Derived.Test.YtiopcojkdglapaaLn
import Derived.Test.YtiopcojkdglapaaTail
import Derived.Great.BuildSlice
set_option linter.unusedSimpArgs false
set_option linter.unusedVariables false
namespace Go.Proofs.Ytiopcojkdglapaa.W
open Go Go.ChangeShapes Go.WideShapes Go.ChangeAt Go.RowKit
open Go.Proofs.Ytiopcojkdglapaa.P (enc dec)
open Go.Proofs.Ytiopcojkdglapaa.B (hasV)

set_option maxRecDepth 100000 in
set_option maxHeartbeats 4000000 in
theorem spfits (s : Sp) (w : World) (h : s.fit) : Calls Try.prog 70 #[.agg s.cells.toArray] w fun x w' => x = .returned (.bool s.ok) ∧ Below w.heap.size w w' := by
  obtain ⟨nm, rd, wr⟩ := s
  have HN := Lib.hid (fun w => cname nm w h.1)
  obtain ⟨b0, h0⟩ : ∃ b, nameV nm = b := ⟨_, rfl⟩
  obtain ⟨b1, h1⟩ : ∃ b, inS rd 0 255 = b := ⟨_, rfl⟩
  obtain ⟨b2, h2⟩ : ∃ b, inS wr 0 255 = b := ⟨_, rfl⟩
  have HX := Lib.hid (show Sp.ok ⟨nm, rd, wr⟩ = (b0 && (b1 && b2)) by unfold Sp.ok; rw [h0, h1, h2])
  rw [h0] at HN
  have H1 := Lib.hid (show (decide ((0 : Int) ≤ rd) && decide (rd ≤ 255)) = b1 from h1)
  have H2 := Lib.hid (show (decide ((0 : Int) ≤ wr) && decide (wr ≤ 255)) = b2 from h2)
  clear h h0 h1 h2
  rw [show (Sp.cells ⟨nm, rd, wr⟩) = [.string nm, .int .i64 rd, .int .i64 wr] from rfl]
  rcases sp3 b0 b1 b2 with rfl | ⟨rfl, rfl⟩ | ⟨rfl, rfl, rfl⟩ | ⟨rfl, rfl, rfl⟩
  all_goals
    go_enter Try.func70, Try.ntmps70
    go_wp2_with (first
      | (with_reducible refine box_row (o := ⟨some 1, _, _, _, _, _⟩) rfl _ _ rfl [.string nm, .int .i64 rd, .int .i64 wr] rfl ?_; intro w1 hr1 hb1 hz1; have R1 := Lib.hid hr1; obtain ⟨c0, c1, c2⟩ := hr1.sp3c; have B1 := Lib.hid hb1; clear hr1 hb1 hz1)
      | (go_at_call 128; with_reducible refine (HN.out _).mono ?_; rintro x w' ⟨rfl, rfl⟩)
      | (go_at_call 91; with_reducible refine (cwithin_b rd 0 255 _ _ H1.out).mono ?_; rintro x w' ⟨rfl, rfl⟩)
      | (go_at_call 91; with_reducible refine (cwithin_b wr 0 255 _ _ H2.out).mono ?_; rintro x w' ⟨rfl, rfl⟩))
    go_ret
    exact ⟨one (vbool (by rw [HX.out]; simp)), B1.out⟩

theorem first_or (p : Sp → Bool) : ∀ L : List Sp, (∀ (i : Nat) (x : Sp), L[i]? = some x → p x = false) ∨ ∃ (k : Nat) (y : Sp), L[k]? = some y ∧ p y = true ∧ ∀ i, i < k → ∀ x, L[i]? = some x → p x = false
  | [] => .inl (fun i x h => by simp at h)
  | s :: L => by
    cases h : p s with
    | true => exact .inr ⟨0, s, rfl, h, fun i hi => absurd hi (Nat.not_lt_zero _)⟩
    | false =>
      rcases first_or p L with h1 | ⟨k, y, h1, h2, h3⟩
      · refine .inl (fun i x hx => ?_)
        cases i with
        | zero => simp at hx; rw [← hx]; exact h
        | succ i => exact h1 i x (by simpa using hx)
      · refine .inr ⟨k + 1, y, by simpa using h1, h2, fun i hi x hx => ?_⟩
        cases i with
        | zero => simp at hx; rw [← hx]; exact h
        | succ i => exact h3 i (by omega) x (by simpa using hx)
theorem less_self : ∀ x : List UInt8, Op.bytesLess x x = false
  | [] => rfl
  | a :: x => by simp [Op.bytesLess, less_self x]
theorem less_asym : ∀ (x y : List UInt8), Op.bytesLess x y = true → Op.bytesLess y x = false
  | [], [], h => by simp [Op.bytesLess] at h
  | [], _ :: _, _ => by simp [Op.bytesLess]
  | _ :: _, [], h => by simp [Op.bytesLess] at h
  | a :: x, b :: y, h => by
    simp only [Op.bytesLess, Bool.or_eq_true, decide_eq_true_eq, Bool.and_eq_true, beq_iff_eq] at h
    simp only [Op.bytesLess, Bool.or_eq_false_iff, decide_eq_false_iff_not, Bool.and_eq_false_iff]
    rcases h with h | ⟨rfl, h⟩
    · refine ⟨fun h2 => ?_, .inl ?_⟩
      · have h1 : a.toNat < b.toNat := h
        have h3 : b.toNat < a.toNat := h2
        omega
      · simp; intro e; subst e; exact absurd (show b.toNat < b.toNat from h) (by omega)
    · exact ⟨fun h2 => absurd (show a.toNat < a.toNat from h2) (by omega), .inr (less_asym x y h)⟩
theorem gtr_eq (x n : List UInt8) : (!Op.bytesLess x n && !(x == n)) = Op.bytesLess n x := by
  cases h1 : Op.bytesLess x n with
  | true => simp [less_asym x n h1]
  | false =>
    by_cases h2 : x = n
    · subst h2; simp [less_self]
    · have := less_total x n h1 h2
      rw [this]; simp [h2]

def pnamed (nm : ByteArray) (s : Sp) : Bool := eqB s.name nm
set_option maxRecDepth 100000 in
set_option maxHeartbeats 4000000 in
theorem spnamed (nm : ByteArray) (w : World) : Calls Try.prog 72 #[.string nm] w fun x w' => x = .returned (.func (.func 129) #[] #[.pointer (some ⟨w.heap.size, 0, none⟩)]) ∧ Row w' w.heap.size 9 [.string nm] ∧ Below w.heap.size w w' := by
  go_enter Try.func72, Try.ntmps72
  go_wp2_with (first
    | ((with_reducible refine box_cell (o := ⟨some 1, _, _, _, _, _⟩) rfl _ _ rfl (.string nm) rfl rfl ?_); intro w1 hr hb hz; have R1 := Lib.hid hr; have B1 := Lib.hid hb; clear hr hb hz))
  go_ret
  exact ⟨rfl, R1.out, B1.out⟩
set_option maxRecDepth 100000 in
set_option maxHeartbeats 4000000 in
theorem spnamed1 (nm : ByteArray) (s : Sp) (g : Nat) (w : World) (h : Row w g 9 [.string nm]) : Calls Try.prog 129 #[.agg s.cells.toArray, .pointer (some ⟨g, 0, none⟩)] w fun x w' => x = .returned (.bool (pnamed nm s)) ∧ Below w.heap.size w w' := by
  obtain ⟨xn, xr, xw⟩ := s
  have HX := Lib.hid (show pnamed nm ⟨xn, xr, xw⟩ = (xn.toList == nm.toList) from rfl)
  have H := Lib.hid h
  obtain ⟨q, hq⟩ : ∃ q, pnamed nm ⟨xn, xr, xw⟩ = q := ⟨_, rfl⟩
  rw [hq] at HX ⊢
  clear h hq
  rw [show (Sp.cells ⟨xn, xr, xw⟩) = [.string xn, .int .i64 xr, .int .i64 xw] from rfl]
  go_enter Try.func129, Try.ntmps129
  go_wp2_with (first
    | (with_reducible refine box_row (o := ⟨some 2, _, _, _, _, _⟩) rfl _ _ rfl [.string xn, .int .i64 xr, .int .i64 xw] rfl ?_; intro w1 hr1 hb1 hz1; obtain ⟨c0, c1, c2⟩ := hr1.sp3c; have k0 := (H.out.below hb1 H.out.lt).k0; have B1 := Lib.hid hb1; clear hr1 hb1 hz1))
  go_ret
  exact ⟨one (vbool (by rw [HX.out])), B1.out⟩
set_option maxRecDepth 100000 in
set_option maxHeartbeats 8000000 in
theorem spidxnamed (nm : ByteArray) (g : Nat) (a : Option Addr) (n c : Nat) (L : List Sp) (w : World) (h : Ls spE w a n c L) (hg : Row w g 9 [.string nm]) :
    Calls Try.prog 71 #[.slice a n c, .func (.func 129) #[] #[.pointer (some ⟨g, 0, none⟩)]] w fun x w' => ∃ z : Int, x = .returned (.int .i64 z) ∧ Below w.heap.size w w' ∧ ((z = -1 ∧ ∀ i, i < n → ∀ x, L[i]? = some x → pnamed nm x = false) ∨ ∃ k : Nat, z = (k : Int) ∧ k < n ∧ (∀ x, L[k]? = some x → pnamed nm x = true) ∧ ∀ i, i < k → ∀ x, L[i]? = some x → pnamed nm x = false) := by
  have H := Lib.hid h
  have HG := Lib.hid hg
  have hm := h.hmax
  have hle := h.hle
  have SZ := Lib.hid sp_size
  clear h hg
  go_enter Try.func71, Try.ntmps71
  go_wp2_with fail
  go_loopw [8] (fun i wr => ∃ k : Nat, i = .int .i64 (k : Int) ∧ k ≤ n ∧ Hid (∀ i, i < k → ∀ x, L[i]? = some x → pnamed nm x = false) ∧ Hid (Below w.heap.size w wr)) (fun i _ => n - (intOf i).toNat)
  case atStart => exact ⟨0, rfl, Nat.zero_le _, Lib.hid (fun i h => absurd h (by omega)), Lib.hid (Below.refl _ _)⟩
  case round =>
    obtain ⟨k, rfl, hk, HP, B⟩ := hrel
    by_cases hlt : k < n
    · obtain ⟨b, off, x, rfl, hx, hcell, -⟩ := H.out.at spOk B.out k hlt
      obtain ⟨xn, xr, xw⟩ := x
      have XC := Lib.hid hcell
      have HX := Lib.hid hx
      have HR := Lib.hid (HG.out.below B.out HG.out.lt)
      obtain ⟨q, hq⟩ : ∃ q, pnamed nm ⟨xn, xr, xw⟩ = q := ⟨_, rfl⟩
      have HQ := Lib.hid hq
      have HC := Lib.hid (spnamed1 nm ⟨xn, xr, xw⟩ g wr HR.out)
      rw [hq] at HC
      have g1 : (0 : Int) ≤ (k : Int) := by omega
      have g2 : (k : Int) < (n : Int) := by omega
      clear hx hcell hq
      cases q
      · go_wp2_with (first
          | ((with_reducible refine load_cells (o := ⟨some 15, _, _, _, _, _⟩) rfl _ _ rfl b (off + k * 3) ?_ [.string xn, .int .i64 xr, .int .i64 xw] _ XC.out Try.underlying24 rfl ?_ ?_); (focus go_simp); (focus (exact SZ.out)))
          | (go_at_call 129; refine HC.out.mono ?_; rintro x w5 ⟨rfl, hb5⟩; have B5 := Lib.hid (B.out.trans (hb5.mono B.out.size)); clear hb5))
        go_roundw
        case rel =>
          refine ⟨k + 1, vint (by omega), by omega, Lib.hid ?_, B5⟩
          intro i hi x hx
          by_cases h : i < k
          · exact HP.out i h x hx
          · obtain rfl : i = k := by omega
            rw [HX.out] at hx; injection hx with hx; subst hx; exact HQ.out
        case measure => simp [intOf]; omega
      · go_wp2_with (first
          | ((with_reducible refine load_cells (o := ⟨some 15, _, _, _, _, _⟩) rfl _ _ rfl b (off + k * 3) ?_ [.string xn, .int .i64 xr, .int .i64 xw] _ XC.out Try.underlying24 rfl ?_ ?_); (focus go_simp); (focus (exact SZ.out)))
          | (go_at_call 129; refine HC.out.mono ?_; rintro x w5 ⟨rfl, hb5⟩; have B5 := Lib.hid (B.out.trans (hb5.mono B.out.size)); clear hb5))
        go_ret
        exact ⟨(k : Int), rfl, B5.out, .inr ⟨k, rfl, hlt, fun x hx => by rw [HX.out] at hx; injection hx with hx; subst hx; exact HQ.out, HP.out⟩⟩
    · obtain rfl : n = k := by omega
      go_wp2_with fail
      go_ret
      exact ⟨-1, rfl, B.out, .inl ⟨rfl, HP.out⟩⟩

theorem spidxnamed_no (nm : ByteArray) (g : Nat) (a : Option Addr) (n c : Nat) (L : List Sp) (w : World) (h : Ls spE w a n c L) (hg : Row w g 9 [.string nm]) (hno : ∀ i, i < n → ∀ x, L[i]? = some x → pnamed nm x = false) :
    Calls Try.prog 71 #[.slice a n c, .func (.func 129) #[] #[.pointer (some ⟨g, 0, none⟩)]] w fun x w' => x = .returned (.int .i64 (-1)) ∧ Below w.heap.size w w' := by
  refine (spidxnamed nm g a n c L w h hg).mono ?_
  rintro x w' ⟨z, rfl, hb, hz⟩
  rcases hz with ⟨rfl, -⟩ | ⟨k, -, hk, hx, -⟩
  · exact ⟨rfl, hb⟩
  · have hk2 : k < L.length := by rw [h.hlen]; exact hk
    have h1 := hno k hk L[k] (List.getElem?_eq_getElem hk2)
    rw [hx L[k] (List.getElem?_eq_getElem hk2)] at h1
    cases h1
theorem spidxnamed_at (nm : ByteArray) (g : Nat) (a : Option Addr) (n c : Nat) (L : List Sp) (w : World) (h : Ls spE w a n c L) (hg : Row w g 9 [.string nm]) (k : Nat) (y : Sp) (hy : L[k]? = some y) (hp : pnamed nm y = true) (hno : ∀ i, i < k → ∀ x, L[i]? = some x → pnamed nm x = false) :
    Calls Try.prog 71 #[.slice a n c, .func (.func 129) #[] #[.pointer (some ⟨g, 0, none⟩)]] w fun x w' => x = .returned (.int .i64 (k : Int)) ∧ Below w.heap.size w w' := by
  refine (spidxnamed nm g a n c L w h hg).mono ?_
  rintro x w' ⟨z, rfl, hb, hz⟩
  have hkl : k < n := by rw [← h.hlen]; exact (List.getElem?_eq_some_iff.1 hy).1
  rcases hz with ⟨rfl, h2⟩ | ⟨q, rfl, hq, hx, h2⟩
  · have := h2 k hkl y hy
    rw [hp] at this; cases this
  · have hq2 : q < L.length := by rw [h.hlen]; exact hq
    have hqk : q = k := by
      rcases Nat.lt_trichotomy q k with h3 | h3 | h3
      · have h4 := hno q h3 L[q] (List.getElem?_eq_getElem hq2)
        rw [hx L[q] (List.getElem?_eq_getElem hq2)] at h4; cases h4
      · exact h3
      · have h4 := h2 k h3 y hy
        rw [hp] at h4; cases h4
    subst hqk
    exact ⟨rfl, hb⟩

def pabove (nm : ByteArray) (s : Sp) : Bool := ltB nm s.name
set_option maxRecDepth 100000 in
set_option maxHeartbeats 4000000 in
theorem spabove (nm : ByteArray) (w : World) : Calls Try.prog 74 #[.string nm] w fun x w' => x = .returned (.func (.func 131) #[] #[.pointer (some ⟨w.heap.size, 0, none⟩)]) ∧ Row w' w.heap.size 9 [.string nm] ∧ Below w.heap.size w w' := by
  go_enter Try.func74, Try.ntmps74
  go_wp2_with (first
    | ((with_reducible refine box_cell (o := ⟨some 1, _, _, _, _, _⟩) rfl _ _ rfl (.string nm) rfl rfl ?_); intro w1 hr hb hz; have R1 := Lib.hid hr; have B1 := Lib.hid hb; clear hr hb hz))
  go_ret
  exact ⟨rfl, R1.out, B1.out⟩
set_option maxRecDepth 100000 in
set_option maxHeartbeats 4000000 in
theorem spabove1 (nm : ByteArray) (s : Sp) (g : Nat) (w : World) (h : Row w g 9 [.string nm]) : Calls Try.prog 131 #[.agg s.cells.toArray, .pointer (some ⟨g, 0, none⟩)] w fun x w' => x = .returned (.bool (pabove nm s)) ∧ Below w.heap.size w w' := by
  obtain ⟨xn, xr, xw⟩ := s
  have HX := Lib.hid (show pabove nm ⟨xn, xr, xw⟩ = Op.bytesLess nm.toList xn.toList from rfl)
  have H := Lib.hid h
  obtain ⟨q, hq⟩ : ∃ q, pabove nm ⟨xn, xr, xw⟩ = q := ⟨_, rfl⟩
  rw [hq] at HX ⊢
  clear h hq
  rw [show (Sp.cells ⟨xn, xr, xw⟩) = [.string xn, .int .i64 xr, .int .i64 xw] from rfl]
  go_enter Try.func131, Try.ntmps131
  go_wp2_with (first
    | (with_reducible refine box_row (o := ⟨some 2, _, _, _, _, _⟩) rfl _ _ rfl [.string xn, .int .i64 xr, .int .i64 xw] rfl ?_; intro w1 hr1 hb1 hz1; obtain ⟨c0, c1, c2⟩ := hr1.sp3c; have k0 := (H.out.below hb1 H.out.lt).k0; have B1 := Lib.hid hb1; clear hr1 hb1 hz1))
  go_ret
  exact ⟨one (vbool (by rw [HX.out, gtr_eq])), B1.out⟩
set_option maxRecDepth 100000 in
set_option maxHeartbeats 8000000 in
theorem spidxabove (nm : ByteArray) (g : Nat) (a : Option Addr) (n c : Nat) (L : List Sp) (w : World) (h : Ls spE w a n c L) (hg : Row w g 9 [.string nm]) :
    Calls Try.prog 71 #[.slice a n c, .func (.func 131) #[] #[.pointer (some ⟨g, 0, none⟩)]] w fun x w' => ∃ z : Int, x = .returned (.int .i64 z) ∧ Below w.heap.size w w' ∧ ((z = -1 ∧ ∀ i, i < n → ∀ x, L[i]? = some x → pabove nm x = false) ∨ ∃ k : Nat, z = (k : Int) ∧ k < n ∧ (∀ x, L[k]? = some x → pabove nm x = true) ∧ ∀ i, i < k → ∀ x, L[i]? = some x → pabove nm x = false) := by
  have H := Lib.hid h
  have HG := Lib.hid hg
  have hm := h.hmax
  have hle := h.hle
  have SZ := Lib.hid sp_size
  clear h hg
  go_enter Try.func71, Try.ntmps71
  go_wp2_with fail
  go_loopw [8] (fun i wr => ∃ k : Nat, i = .int .i64 (k : Int) ∧ k ≤ n ∧ Hid (∀ i, i < k → ∀ x, L[i]? = some x → pabove nm x = false) ∧ Hid (Below w.heap.size w wr)) (fun i _ => n - (intOf i).toNat)
  case atStart => exact ⟨0, rfl, Nat.zero_le _, Lib.hid (fun i h => absurd h (by omega)), Lib.hid (Below.refl _ _)⟩
  case round =>
    obtain ⟨k, rfl, hk, HP, B⟩ := hrel
    by_cases hlt : k < n
    · obtain ⟨b, off, x, rfl, hx, hcell, -⟩ := H.out.at spOk B.out k hlt
      obtain ⟨xn, xr, xw⟩ := x
      have XC := Lib.hid hcell
      have HX := Lib.hid hx
      have HR := Lib.hid (HG.out.below B.out HG.out.lt)
      obtain ⟨q, hq⟩ : ∃ q, pabove nm ⟨xn, xr, xw⟩ = q := ⟨_, rfl⟩
      have HQ := Lib.hid hq
      have HC := Lib.hid (spabove1 nm ⟨xn, xr, xw⟩ g wr HR.out)
      rw [hq] at HC
      have g1 : (0 : Int) ≤ (k : Int) := by omega
      have g2 : (k : Int) < (n : Int) := by omega
      clear hx hcell hq
      cases q
      · go_wp2_with (first
          | ((with_reducible refine load_cells (o := ⟨some 15, _, _, _, _, _⟩) rfl _ _ rfl b (off + k * 3) ?_ [.string xn, .int .i64 xr, .int .i64 xw] _ XC.out Try.underlying24 rfl ?_ ?_); (focus go_simp); (focus (exact SZ.out)))
          | (go_at_call 131; refine HC.out.mono ?_; rintro x w5 ⟨rfl, hb5⟩; have B5 := Lib.hid (B.out.trans (hb5.mono B.out.size)); clear hb5))
        go_roundw
        case rel =>
          refine ⟨k + 1, vint (by omega), by omega, Lib.hid ?_, B5⟩
          intro i hi x hx
          by_cases h : i < k
          · exact HP.out i h x hx
          · obtain rfl : i = k := by omega
            rw [HX.out] at hx; injection hx with hx; subst hx; exact HQ.out
        case measure => simp [intOf]; omega
      · go_wp2_with (first
          | ((with_reducible refine load_cells (o := ⟨some 15, _, _, _, _, _⟩) rfl _ _ rfl b (off + k * 3) ?_ [.string xn, .int .i64 xr, .int .i64 xw] _ XC.out Try.underlying24 rfl ?_ ?_); (focus go_simp); (focus (exact SZ.out)))
          | (go_at_call 131; refine HC.out.mono ?_; rintro x w5 ⟨rfl, hb5⟩; have B5 := Lib.hid (B.out.trans (hb5.mono B.out.size)); clear hb5))
        go_ret
        exact ⟨(k : Int), rfl, B5.out, .inr ⟨k, rfl, hlt, fun x hx => by rw [HX.out] at hx; injection hx with hx; subst hx; exact HQ.out, HP.out⟩⟩
    · obtain rfl : n = k := by omega
      go_wp2_with fail
      go_ret
      exact ⟨-1, rfl, B.out, .inl ⟨rfl, HP.out⟩⟩

theorem spidxabove_no (nm : ByteArray) (g : Nat) (a : Option Addr) (n c : Nat) (L : List Sp) (w : World) (h : Ls spE w a n c L) (hg : Row w g 9 [.string nm]) (hno : ∀ i, i < n → ∀ x, L[i]? = some x → pabove nm x = false) :
    Calls Try.prog 71 #[.slice a n c, .func (.func 131) #[] #[.pointer (some ⟨g, 0, none⟩)]] w fun x w' => x = .returned (.int .i64 (-1)) ∧ Below w.heap.size w w' := by
  refine (spidxabove nm g a n c L w h hg).mono ?_
  rintro x w' ⟨z, rfl, hb, hz⟩
  rcases hz with ⟨rfl, -⟩ | ⟨k, -, hk, hx, -⟩
  · exact ⟨rfl, hb⟩
  · have hk2 : k < L.length := by rw [h.hlen]; exact hk
    have h1 := hno k hk L[k] (List.getElem?_eq_getElem hk2)
    rw [hx L[k] (List.getElem?_eq_getElem hk2)] at h1
    cases h1
theorem spidxabove_at (nm : ByteArray) (g : Nat) (a : Option Addr) (n c : Nat) (L : List Sp) (w : World) (h : Ls spE w a n c L) (hg : Row w g 9 [.string nm]) (k : Nat) (y : Sp) (hy : L[k]? = some y) (hp : pabove nm y = true) (hno : ∀ i, i < k → ∀ x, L[i]? = some x → pabove nm x = false) :
    Calls Try.prog 71 #[.slice a n c, .func (.func 131) #[] #[.pointer (some ⟨g, 0, none⟩)]] w fun x w' => x = .returned (.int .i64 (k : Int)) ∧ Below w.heap.size w w' := by
  refine (spidxabove nm g a n c L w h hg).mono ?_
  rintro x w' ⟨z, rfl, hb, hz⟩
  have hkl : k < n := by rw [← h.hlen]; exact (List.getElem?_eq_some_iff.1 hy).1
  rcases hz with ⟨rfl, h2⟩ | ⟨q, rfl, hq, hx, h2⟩
  · have := h2 k hkl y hy
    rw [hp] at this; cases this
  · have hq2 : q < L.length := by rw [h.hlen]; exact hq
    have hqk : q = k := by
      rcases Nat.lt_trichotomy q k with h3 | h3 | h3
      · have h4 := hno q h3 L[q] (List.getElem?_eq_getElem hq2)
        rw [hx L[q] (List.getElem?_eq_getElem hq2)] at h4; cases h4
      · exact h3
      · have h4 := h2 k h3 y hy
        rw [hp] at h4; cases h4
    subst hqk
    exact ⟨rfl, hb⟩
end Go.Proofs.Ytiopcojkdglapaa.W

namespace Go.Proofs.Ytiopcojkdglapaa.W
open Go Go.ChangeShapes Go.WideShapes Go.ChangeAt Go.RowKit
open Go.Proofs.Ytiopcojkdglapaa.P (enc dec)

set_option maxRecDepth 100000 in
set_option maxHeartbeats 16000000 in
theorem pspCheck : SpCheckP 22 := by
  intro a n c L w h
  have H := Lib.hid h
  have HL := Lib.hid h.hlen
  have hm := h.hmax
  have hle := h.hle
  have SZ := Lib.hid sp_size
  have MZ := Lib.hid sp_zero
  by_cases h6 : n ≤ 6
  case neg =>
    have HF := Lib.hid (show checkV L = false by unfold checkV; rw [h.hlen]; simp; omega)
    have g6 : (6 : Int) < (n : Int) := by omega
    clear h
    go_enter Try.func22, Try.ntmps22
    go_wp2_with fail
    go_ret
    exact ⟨one (vbool (by rw [HF.out])), Below.refl _ _⟩
  obtain ⟨V, hV⟩ : ∃ V, checkV L = V := ⟨_, rfl⟩
  rw [hV]
  have HV := Lib.hid hV
  have g6 : ¬ (6 : Int) < (n : Int) := by omega
  clear h hV
  go_enter Try.func22, Try.ntmps22
  go_wp2_with fail
  go_loopw [10] (fun i wr => ∃ k : Nat, i = .int .i64 (k : Int) ∧ k ≤ n ∧ Hid (chkS none (L.take k) = true) ∧ Hid (Below w.heap.size w wr)) (fun i _ => n - (intOf i).toNat)
  case atStart => exact ⟨0, rfl, Nat.zero_le _, Lib.hid rfl, Lib.hid (Below.refl _ _)⟩
  case round =>
    obtain ⟨k, rfl, hk, P, B⟩ := hrel
    by_cases hlt : k < n
    · obtain ⟨b, off, x, rfl, hx, hcell, hfx⟩ := H.out.at spOk B.out k hlt
      obtain ⟨xn, xr, xw⟩ := x
      have XC := Lib.hid hcell
      have HX := Lib.hid hx
      have FX := Lib.hid hfx
      have hnx := chk_next L k _ hx
      rw [P.out, Bool.true_and] at hnx
      have hbad : chkS none (L.take (k + 1)) = false → V = false := fun h => by rw [← HV.out]; exact checkV_false (chk_take L none (k + 1) h)
      obtain ⟨ok, hok⟩ : ∃ b, Sp.ok ⟨xn, xr, xw⟩ = b := ⟨_, rfl⟩
      rw [hok] at hnx
      have HOK := Lib.hid hok
      have g1 : (0 : Int) ≤ (k : Int) := by omega
      have g2 : (k : Int) < (n : Int) := by omega
      clear hx hcell hfx hok
      rcases ok with _ | _
      · have HF := Lib.hid (hbad (by rw [hnx]; rfl))
        clear hnx hbad
        go_wp2_with (first
          | ((with_reducible refine load_cells (o := ⟨some 14, _, _, _, _, _⟩) rfl _ _ rfl b (off + k * 3) ?_ [.string xn, .int .i64 xr, .int .i64 xw] _ XC.out Try.underlying24 rfl ?_ ?_); (focus go_simp); (focus (exact SZ.out)))
          | ((with_reducible refine alloc_row (o := ⟨some 4, _, _, _, _, _⟩) rfl _ rfl _ MZ.out ?_); intro w1 hr hb hz; have R1 := Lib.hid hr; have B1 := Lib.hid hb; clear hr hb hz)
          | ((with_reducible refine store_row (o := ⟨none, _, _, _, _, _⟩) rfl _ (.tmp 4) _ rfl wr.heap.size [.string xn, .int .i64 xr, .int .i64 xw] ?_ ?_ 24 _ R1.out ?_ ?_ ?_ ?_); (focus go_simp); (focus (first | (go_simp; done) | (go_simp; rfl))); (focus (exact SZ.out)); (focus rfl); (focus (exact sp_one ⟨xn, xr, xw⟩)); intro w2 hr hu; have B2 := Lib.hid (B1.out.trans (hu.below (Nat.le_refl _))); have C0 := Lib.hid hr.sp3c.1; have XR := Lib.hid (show ∀ j u, ([.string xn, .int .i64 xr, .int .i64 xw] : List Value)[j]? = some u → w2.cell? ⟨wr.heap.size, 0 + j, none⟩ = some u from fun j u hj => by rw [Nat.zero_add]; exact (hr.cellV j).trans hj); clear hr hu))
        refine region_h (fun v => Below w2.heap.size w2 v) (by kernel_rfl) (by kernel_rfl) (Below.refl _ _).drew ?_
        obtain ⟨wd, hwd⟩ : ∃ wd, w2.drew = wd := ⟨_, rfl⟩
        have D0 : Hid (Below w2.heap.size w2 wd) := Lib.hid (by rw [← hwd]; exact (Below.refl _ _).drew)
        rw [hwd]
        clear hwd
        (refine h_read 0 rfl (by kernel_rfl) (by kernel_rfl) (h_free rfl) ?_ ?_ ?_; rotate_left; (focus (intro v hv; refine run_cells 24 (.tmp 4) ?_ wr.heap.size 0 ?_ [.string xn, .int .i64 xr, .int .i64 xw] _ (fun j' u hj => by rw [hv.cell (p := ⟨wr.heap.size, 0 + j', none⟩) (World.block_lt_of_cell? w2 _ (XR.out j' u hj))]; exact XR.out j' u hj) Try.underlying24 rfl sp_size; (focus rfl); go_simp)); go_simp)
        (refine h_call 1 rfl (by kernel_rfl) (h_free rfl) 70 ?_ ?_ ?_; rotate_left; (focus (go_simp; rfl)))
        refine (spfits ⟨xn, xr, xw⟩ wd FX.out).mono ?_
        rw [HOK.out]
        rintro x w5 ⟨rfl, hb5⟩
        have J5 := Lib.hid (D0.out.trans (hb5.mono D0.out.size))
        clear hb5
        refine ⟨_, rfl, J5.out, ?_⟩
        go_simp
        (refine h_read 2 rfl (by kernel_rfl) (by kernel_rfl) (h_free rfl) ?_ ?_ ?_; rotate_left; (focus (intro v hv; go_simp; rfl)); go_simp)
        (refine h_read 3 rfl (by kernel_rfl) (by kernel_rfl) (h_free rfl) ?_ ?_ ?_; rotate_left; (focus (intro v hv; go_simp; rfl)); go_simp)
        (refine h_skip 4 rfl (by kernel_rfl) (by kernel_rfl) ?_ ?_; (focus (go_simp; first | done | (intro h; cases h) | simp)); go_simp)
        (refine h_skip 5 rfl (by kernel_rfl) (by kernel_rfl) ?_ ?_; (focus (go_simp; first | done | (intro h; cases h) | simp)); go_simp)
        (refine h_skip 6 rfl (by kernel_rfl) (by kernel_rfl) ?_ ?_; (focus (go_simp; first | done | (intro h; cases h) | simp)); go_simp)
        (refine h_skip 7 rfl (by kernel_rfl) (by kernel_rfl) ?_ ?_; (focus (go_simp; first | done | (intro h; cases h) | simp)); go_simp)
        (refine h_skip 8 rfl (by kernel_rfl) (by kernel_rfl) ?_ ?_; (focus (go_simp; first | done | (intro h; cases h) | simp)); go_simp)
        (refine h_skip 9 rfl (by kernel_rfl) (by kernel_rfl) ?_ ?_; (focus (go_simp; first | done | (intro h; cases h) | simp)); go_simp)
        (refine h_skip 10 rfl (by kernel_rfl) (by kernel_rfl) ?_ ?_; (focus (go_simp; first | done | (intro h; cases h) | simp)); go_simp)
        (refine h_skip 11 rfl (by kernel_rfl) (by kernel_rfl) ?_ ?_; (focus (go_simp; first | done | (intro h; cases h) | simp)); go_simp)
        (refine h_skip 12 rfl (by kernel_rfl) (by kernel_rfl) ?_ ?_; (focus (go_simp; first | done | (intro h; cases h) | simp)); go_simp)
        (refine h_skip 13 rfl (by kernel_rfl) (by kernel_rfl) ?_ ?_; (focus (go_simp; first | done | (intro h; cases h) | simp)); go_simp)
        (refine h_skip 14 rfl (by kernel_rfl) (by kernel_rfl) ?_ ?_; (focus (go_simp; first | done | (intro h; cases h) | simp)); go_simp)
        (refine h_skip 15 rfl (by kernel_rfl) (by kernel_rfl) ?_ ?_; (focus (go_simp; first | done | (intro h; cases h) | simp)); go_simp)
        (refine h_skip 16 rfl (by kernel_rfl) (by kernel_rfl) ?_ ?_; (focus (go_simp; first | done | (intro h; cases h) | simp)); go_simp)
        (refine h_read 17 rfl (by kernel_rfl) (by kernel_rfl) (h_free rfl) ?_ ?_ ?_; rotate_left; (focus (intro v hv; go_simp; rfl)); go_simp)
        refine h_done (by kernel_rfl) ?_
        go_wp2_with fail
        go_ret
        exact ⟨one (vbool (by rw [HF.out])), B.out.trans ((B2.out.trans (J5.out.mono B2.out.size)).mono B.out.size)⟩
      · rcases k with _ | m
        · have HN := Lib.hid (hnx.trans rfl)
          clear hnx hbad
          have z1 : ¬ (0 : Int) < ((0 : Nat) : Int) := by omega
          go_wp2_with (first
            | ((with_reducible refine load_cells (o := ⟨some 14, _, _, _, _, _⟩) rfl _ _ rfl b (off + 0 * 3) ?_ [.string xn, .int .i64 xr, .int .i64 xw] _ XC.out Try.underlying24 rfl ?_ ?_); (focus go_simp); (focus (exact SZ.out)))
            | ((with_reducible refine alloc_row (o := ⟨some 4, _, _, _, _, _⟩) rfl _ rfl _ MZ.out ?_); intro w1 hr hb hz; have R1 := Lib.hid hr; have B1 := Lib.hid hb; clear hr hb hz)
            | ((with_reducible refine store_row (o := ⟨none, _, _, _, _, _⟩) rfl _ (.tmp 4) _ rfl wr.heap.size [.string xn, .int .i64 xr, .int .i64 xw] ?_ ?_ 24 _ R1.out ?_ ?_ ?_ ?_); (focus go_simp); (focus (first | (go_simp; done) | (go_simp; rfl))); (focus (exact SZ.out)); (focus rfl); (focus (exact sp_one ⟨xn, xr, xw⟩)); intro w2 hr hu; have B2 := Lib.hid (B1.out.trans (hu.below (Nat.le_refl _))); have C0 := Lib.hid hr.sp3c.1; have XR := Lib.hid (show ∀ j u, ([.string xn, .int .i64 xr, .int .i64 xw] : List Value)[j]? = some u → w2.cell? ⟨wr.heap.size, 0 + j, none⟩ = some u from fun j u hj => by rw [Nat.zero_add]; exact (hr.cellV j).trans hj); clear hr hu))
          refine region_h (fun v => Below w2.heap.size w2 v) (by kernel_rfl) (by kernel_rfl) (Below.refl _ _).drew ?_
          obtain ⟨wd, hwd⟩ : ∃ wd, w2.drew = wd := ⟨_, rfl⟩
          have D0 : Hid (Below w2.heap.size w2 wd) := Lib.hid (by rw [← hwd]; exact (Below.refl _ _).drew)
          rw [hwd]
          clear hwd
          (refine h_read 0 rfl (by kernel_rfl) (by kernel_rfl) (h_free rfl) ?_ ?_ ?_; rotate_left; (focus (intro v hv; refine run_cells 24 (.tmp 4) ?_ wr.heap.size 0 ?_ [.string xn, .int .i64 xr, .int .i64 xw] _ (fun j' u hj => by rw [hv.cell (p := ⟨wr.heap.size, 0 + j', none⟩) (World.block_lt_of_cell? w2 _ (XR.out j' u hj))]; exact XR.out j' u hj) Try.underlying24 rfl sp_size; (focus rfl); go_simp)); go_simp)
          (refine h_call 1 rfl (by kernel_rfl) (h_free rfl) 70 ?_ ?_ ?_; rotate_left; (focus (go_simp; rfl)))
          refine (spfits ⟨xn, xr, xw⟩ wd FX.out).mono ?_
          rw [HOK.out]
          rintro x w5 ⟨rfl, hb5⟩
          have J5 := Lib.hid (D0.out.trans (hb5.mono D0.out.size))
          clear hb5
          refine ⟨_, rfl, J5.out, ?_⟩
          go_simp
          (refine h_read 2 rfl (by kernel_rfl) (by kernel_rfl) (h_free rfl) ?_ ?_ ?_; rotate_left; (focus (intro v hv; go_simp; rfl)); go_simp)
          (refine h_read 3 rfl (by kernel_rfl) (by kernel_rfl) (h_free rfl) ?_ ?_ ?_; rotate_left; (focus (intro v hv; go_simp; rfl)); go_simp)
          (refine h_read 4 rfl (by kernel_rfl) (by kernel_rfl) ?_ ?_ ?_ ?_; (focus (go_simp; done)); rotate_left; (focus (intro v hv; go_simp; rfl)); go_simp)
          (refine h_read 5 rfl (by kernel_rfl) (by kernel_rfl) ?_ ?_ ?_ ?_; (focus (go_simp; done)); rotate_left; (focus (intro v hv; go_simp; rfl)); go_simp)
          (refine h_read 6 rfl (by kernel_rfl) (by kernel_rfl) ?_ ?_ ?_ ?_; (focus (go_simp; done)); rotate_left; (focus (intro v hv; go_simp; rfl)); go_simp)
          (refine h_skip 7 rfl (by kernel_rfl) (by kernel_rfl) ?_ ?_; (focus (go_simp; first | done | (intro h; cases h) | simp)); go_simp)
          (refine h_skip 8 rfl (by kernel_rfl) (by kernel_rfl) ?_ ?_; (focus (go_simp; first | done | (intro h; cases h) | simp)); go_simp)
          (refine h_skip 9 rfl (by kernel_rfl) (by kernel_rfl) ?_ ?_; (focus (go_simp; first | done | (intro h; cases h) | simp)); go_simp)
          (refine h_skip 10 rfl (by kernel_rfl) (by kernel_rfl) ?_ ?_; (focus (go_simp; first | done | (intro h; cases h) | simp)); go_simp)
          (refine h_skip 11 rfl (by kernel_rfl) (by kernel_rfl) ?_ ?_; (focus (go_simp; first | done | (intro h; cases h) | simp)); go_simp)
          (refine h_skip 12 rfl (by kernel_rfl) (by kernel_rfl) ?_ ?_; (focus (go_simp; first | done | (intro h; cases h) | simp)); go_simp)
          (refine h_skip 13 rfl (by kernel_rfl) (by kernel_rfl) ?_ ?_; (focus (go_simp; first | done | (intro h; cases h) | simp)); go_simp)
          (refine h_skip 14 rfl (by kernel_rfl) (by kernel_rfl) ?_ ?_; (focus (go_simp; first | done | (intro h; cases h) | simp)); go_simp)
          (refine h_skip 15 rfl (by kernel_rfl) (by kernel_rfl) ?_ ?_; (focus (go_simp; first | done | (intro h; cases h) | simp)); go_simp)
          (refine h_read 16 rfl (by kernel_rfl) (by kernel_rfl) ?_ ?_ ?_ ?_; (focus (go_simp; done)); rotate_left; (focus (intro v hv; go_simp; rfl)); go_simp)
          (refine h_read 17 rfl (by kernel_rfl) (by kernel_rfl) (h_free rfl) ?_ ?_ ?_; rotate_left; (focus (intro v hv; go_simp; rfl)); go_simp)
          refine h_done (by kernel_rfl) ?_
          go_wp2_with fail
          go_roundw
          case rel => exact ⟨1, vint (by omega), by omega, HN, Lib.hid (B.out.trans ((B2.out.trans (J5.out.mono B2.out.size)).mono B.out.size))⟩
          case measure => simp [intOf]; omega
        · obtain ⟨b2, o2, y, hab, hy, hcy, -⟩ := H.out.at spOk B.out m (by omega)
          obtain ⟨yn, yr, yw⟩ := y
          obtain ⟨rfl, rfl⟩ : b = b2 ∧ off = o2 := by injection hab with hab; injection hab with e1 e2; exact ⟨e1, e2⟩
          have E0' := Lib.hid (show wr.cell? ⟨b, off + m * 3, none⟩ = some (.string yn) from hcy 0 _ rfl)
          rw [if_neg (by omega), Nat.add_sub_cancel, hy] at hnx
          obtain ⟨bv, hbv⟩ : ∃ v, Op.bytesLess yn.toList xn.toList = v := ⟨_, rfl⟩
          have hnx2 : chkS none (L.take (m + 1 + 1)) = bv := by rw [hnx]; show (true && Op.bytesLess yn.toList xn.toList) = bv; rw [hbv]; rfl
          have hwr : IntKind.i64.wrap (m : Int) = (m : Int) := by rw [IntKind.wrap_i64]; omega
          have g3 : (0 : Int) ≤ (m : Int) := by omega
          have g4 : (m : Int) < (n : Int) := by omega
          have g5 : (0 : Int) < ((m + 1 : Nat) : Int) := by omega
          clear hnx hcy hy hab
          rcases bv with _ | _
          · have HF := Lib.hid (hbad hnx2)
            clear hnx2 hbad
            go_wp2_with (first
              | ((with_reducible refine load_cells (o := ⟨some 14, _, _, _, _, _⟩) rfl _ _ rfl b (off + (m + 1) * 3) ?_ [.string xn, .int .i64 xr, .int .i64 xw] _ XC.out Try.underlying24 rfl ?_ ?_); (focus go_simp); (focus (exact SZ.out)))
              | ((with_reducible refine alloc_row (o := ⟨some 4, _, _, _, _, _⟩) rfl _ rfl _ MZ.out ?_); intro w1 hr hb hz; have R1 := Lib.hid hr; have B1 := Lib.hid hb; clear hr hb hz)
              | ((with_reducible refine store_row (o := ⟨none, _, _, _, _, _⟩) rfl _ (.tmp 4) _ rfl wr.heap.size [.string xn, .int .i64 xr, .int .i64 xw] ?_ ?_ 24 _ R1.out ?_ ?_ ?_ ?_); (focus go_simp); (focus (first | (go_simp; done) | (go_simp; rfl))); (focus (exact SZ.out)); (focus rfl); (focus (exact sp_one ⟨xn, xr, xw⟩)); intro w2 hr hu; have B2 := Lib.hid (B1.out.trans (hu.below (Nat.le_refl _))); have C0 := Lib.hid hr.sp3c.1; have XR := Lib.hid (show ∀ j u, ([.string xn, .int .i64 xr, .int .i64 xw] : List Value)[j]? = some u → w2.cell? ⟨wr.heap.size, 0 + j, none⟩ = some u from fun j u hj => by rw [Nat.zero_add]; exact (hr.cellV j).trans hj); clear hr hu))
            have E0 := Lib.hid ((B2.out.cell (p := ⟨b, off + m * 3, none⟩) (World.block_lt_of_cell? wr _ E0'.out)).trans E0'.out)
            refine region_h (fun v => Below w2.heap.size w2 v) (by kernel_rfl) (by kernel_rfl) (Below.refl _ _).drew ?_
            obtain ⟨wd, hwd⟩ : ∃ wd, w2.drew = wd := ⟨_, rfl⟩
            have D0 : Hid (Below w2.heap.size w2 wd) := Lib.hid (by rw [← hwd]; exact (Below.refl _ _).drew)
            rw [hwd]
            clear hwd
            (refine h_read 0 rfl (by kernel_rfl) (by kernel_rfl) (h_free rfl) ?_ ?_ ?_; rotate_left; (focus (intro v hv; refine run_cells 24 (.tmp 4) ?_ wr.heap.size 0 ?_ [.string xn, .int .i64 xr, .int .i64 xw] _ (fun j' u hj => by rw [hv.cell (p := ⟨wr.heap.size, 0 + j', none⟩) (World.block_lt_of_cell? w2 _ (XR.out j' u hj))]; exact XR.out j' u hj) Try.underlying24 rfl sp_size; (focus rfl); go_simp)); go_simp)
            (refine h_call 1 rfl (by kernel_rfl) (h_free rfl) 70 ?_ ?_ ?_; rotate_left; (focus (go_simp; rfl)))
            refine (spfits ⟨xn, xr, xw⟩ wd FX.out).mono ?_
            rw [HOK.out]
            rintro x w5 ⟨rfl, hb5⟩
            have J5 := Lib.hid (D0.out.trans (hb5.mono D0.out.size))
            clear hb5
            refine ⟨_, rfl, J5.out, ?_⟩
            go_simp
            (refine h_read 2 rfl (by kernel_rfl) (by kernel_rfl) (h_free rfl) ?_ ?_ ?_; rotate_left; (focus (intro v hv; go_simp; rfl)); go_simp)
            (refine h_read 3 rfl (by kernel_rfl) (by kernel_rfl) (h_free rfl) ?_ ?_ ?_; rotate_left; (focus (intro v hv; go_simp; rfl)); go_simp)
            (refine h_read 4 rfl (by kernel_rfl) (by kernel_rfl) ?_ ?_ ?_ ?_; (focus (go_simp; done)); rotate_left; (focus (intro v hv; go_simp; rfl)); go_simp)
            (refine h_read 5 rfl (by kernel_rfl) (by kernel_rfl) ?_ ?_ ?_ ?_; (focus (go_simp; done)); rotate_left; (focus (intro v hv; go_simp; rfl)); go_simp)
            (refine h_read 6 rfl (by kernel_rfl) (by kernel_rfl) ?_ ?_ ?_ ?_; (focus (go_simp; done)); rotate_left; (focus (intro v hv; go_simp; rfl)); go_simp)
            (refine h_read 7 rfl (by kernel_rfl) (by kernel_rfl) ?_ ?_ ?_ ?_; (focus (go_simp; done)); rotate_left; (focus (intro v hv; go_simp; rfl)); go_simp)
            (refine h_read 8 rfl (by kernel_rfl) (by kernel_rfl) ?_ ?_ ?_ ?_; (focus (go_simp; done)); rotate_left; (focus (intro v hv; go_simp; rfl)); go_simp)
            (refine h_read 9 rfl (by kernel_rfl) (by kernel_rfl) ?_ ?_ ?_ ?_; (focus (go_simp; done)); rotate_left; (focus (intro v hv; go_simp; rfl)); go_simp)
            (refine h_read 10 rfl (by kernel_rfl) (by kernel_rfl) ?_ ?_ ?_ ?_; (focus (go_simp; done)); rotate_left; (focus (intro v hv; go_simp; rfl)); go_simp)
            (refine h_read 11 rfl (by kernel_rfl) (by kernel_rfl) ?_ ?_ ?_ ?_; (focus (go_simp; done)); rotate_left; (focus (intro v hv; go_simp; rfl)); go_simp)
            (refine h_read 12 rfl (by kernel_rfl) (by kernel_rfl) ?_ ?_ ?_ ?_; (focus (go_simp; done)); rotate_left; (focus (intro v hv; have q0 := (hv.cell (p := ⟨b, off + m * 3, none⟩) (World.block_lt_of_cell? w2 _ E0.out)).trans E0.out; have q1 := (hv.cell (p := ⟨wr.heap.size, 0, none⟩) (World.block_lt_of_cell? w2 _ C0.out)).trans C0.out; go_simp; rfl)); go_simp)
            (refine h_read 13 rfl (by kernel_rfl) (by kernel_rfl) ?_ ?_ ?_ ?_; (focus (go_simp; done)); rotate_left; (focus (intro v hv; go_simp; rfl)); go_simp)
            (refine h_read 14 rfl (by kernel_rfl) (by kernel_rfl) ?_ ?_ ?_ ?_; (focus (go_simp; done)); rotate_left; (focus (intro v hv; have q0 := (hv.cell (p := ⟨b, off + m * 3, none⟩) (World.block_lt_of_cell? w2 _ E0.out)).trans E0.out; have q1 := (hv.cell (p := ⟨wr.heap.size, 0, none⟩) (World.block_lt_of_cell? w2 _ C0.out)).trans C0.out; go_simp; rfl)); go_simp)
            (refine h_read 15 rfl (by kernel_rfl) (by kernel_rfl) ?_ ?_ ?_ ?_; (focus (go_simp; done)); rotate_left; (focus (intro v hv; go_simp; rfl)); go_simp)
            (refine h_read 16 rfl (by kernel_rfl) (by kernel_rfl) ?_ ?_ ?_ ?_; (focus (go_simp; done)); rotate_left; (focus (intro v hv; go_simp; rfl)); go_simp)
            (refine h_read 17 rfl (by kernel_rfl) (by kernel_rfl) (h_free rfl) ?_ ?_ ?_; rotate_left; (focus (intro v hv; go_simp; rfl)); go_simp)
            refine h_done (by kernel_rfl) ?_
            go_wp2_with fail
            go_ret
            exact ⟨one (vbool (by rw [HF.out])), B.out.trans ((B2.out.trans (J5.out.mono B2.out.size)).mono B.out.size)⟩
          · have HN := Lib.hid hnx2
            clear hnx2 hbad
            go_wp2_with (first
              | ((with_reducible refine load_cells (o := ⟨some 14, _, _, _, _, _⟩) rfl _ _ rfl b (off + (m + 1) * 3) ?_ [.string xn, .int .i64 xr, .int .i64 xw] _ XC.out Try.underlying24 rfl ?_ ?_); (focus go_simp); (focus (exact SZ.out)))
              | ((with_reducible refine alloc_row (o := ⟨some 4, _, _, _, _, _⟩) rfl _ rfl _ MZ.out ?_); intro w1 hr hb hz; have R1 := Lib.hid hr; have B1 := Lib.hid hb; clear hr hb hz)
              | ((with_reducible refine store_row (o := ⟨none, _, _, _, _, _⟩) rfl _ (.tmp 4) _ rfl wr.heap.size [.string xn, .int .i64 xr, .int .i64 xw] ?_ ?_ 24 _ R1.out ?_ ?_ ?_ ?_); (focus go_simp); (focus (first | (go_simp; done) | (go_simp; rfl))); (focus (exact SZ.out)); (focus rfl); (focus (exact sp_one ⟨xn, xr, xw⟩)); intro w2 hr hu; have B2 := Lib.hid (B1.out.trans (hu.below (Nat.le_refl _))); have C0 := Lib.hid hr.sp3c.1; have XR := Lib.hid (show ∀ j u, ([.string xn, .int .i64 xr, .int .i64 xw] : List Value)[j]? = some u → w2.cell? ⟨wr.heap.size, 0 + j, none⟩ = some u from fun j u hj => by rw [Nat.zero_add]; exact (hr.cellV j).trans hj); clear hr hu))
            have E0 := Lib.hid ((B2.out.cell (p := ⟨b, off + m * 3, none⟩) (World.block_lt_of_cell? wr _ E0'.out)).trans E0'.out)
            refine region_h (fun v => Below w2.heap.size w2 v) (by kernel_rfl) (by kernel_rfl) (Below.refl _ _).drew ?_
            obtain ⟨wd, hwd⟩ : ∃ wd, w2.drew = wd := ⟨_, rfl⟩
            have D0 : Hid (Below w2.heap.size w2 wd) := Lib.hid (by rw [← hwd]; exact (Below.refl _ _).drew)
            rw [hwd]
            clear hwd
            (refine h_read 0 rfl (by kernel_rfl) (by kernel_rfl) (h_free rfl) ?_ ?_ ?_; rotate_left; (focus (intro v hv; refine run_cells 24 (.tmp 4) ?_ wr.heap.size 0 ?_ [.string xn, .int .i64 xr, .int .i64 xw] _ (fun j' u hj => by rw [hv.cell (p := ⟨wr.heap.size, 0 + j', none⟩) (World.block_lt_of_cell? w2 _ (XR.out j' u hj))]; exact XR.out j' u hj) Try.underlying24 rfl sp_size; (focus rfl); go_simp)); go_simp)
            (refine h_call 1 rfl (by kernel_rfl) (h_free rfl) 70 ?_ ?_ ?_; rotate_left; (focus (go_simp; rfl)))
            refine (spfits ⟨xn, xr, xw⟩ wd FX.out).mono ?_
            rw [HOK.out]
            rintro x w5 ⟨rfl, hb5⟩
            have J5 := Lib.hid (D0.out.trans (hb5.mono D0.out.size))
            clear hb5
            refine ⟨_, rfl, J5.out, ?_⟩
            go_simp
            (refine h_read 2 rfl (by kernel_rfl) (by kernel_rfl) (h_free rfl) ?_ ?_ ?_; rotate_left; (focus (intro v hv; go_simp; rfl)); go_simp)
            (refine h_read 3 rfl (by kernel_rfl) (by kernel_rfl) (h_free rfl) ?_ ?_ ?_; rotate_left; (focus (intro v hv; go_simp; rfl)); go_simp)
            (refine h_read 4 rfl (by kernel_rfl) (by kernel_rfl) ?_ ?_ ?_ ?_; (focus (go_simp; done)); rotate_left; (focus (intro v hv; go_simp; rfl)); go_simp)
            (refine h_read 5 rfl (by kernel_rfl) (by kernel_rfl) ?_ ?_ ?_ ?_; (focus (go_simp; done)); rotate_left; (focus (intro v hv; go_simp; rfl)); go_simp)
            (refine h_read 6 rfl (by kernel_rfl) (by kernel_rfl) ?_ ?_ ?_ ?_; (focus (go_simp; done)); rotate_left; (focus (intro v hv; go_simp; rfl)); go_simp)
            (refine h_read 7 rfl (by kernel_rfl) (by kernel_rfl) ?_ ?_ ?_ ?_; (focus (go_simp; done)); rotate_left; (focus (intro v hv; go_simp; rfl)); go_simp)
            (refine h_read 8 rfl (by kernel_rfl) (by kernel_rfl) ?_ ?_ ?_ ?_; (focus (go_simp; done)); rotate_left; (focus (intro v hv; go_simp; rfl)); go_simp)
            (refine h_read 9 rfl (by kernel_rfl) (by kernel_rfl) ?_ ?_ ?_ ?_; (focus (go_simp; done)); rotate_left; (focus (intro v hv; go_simp; rfl)); go_simp)
            (refine h_read 10 rfl (by kernel_rfl) (by kernel_rfl) ?_ ?_ ?_ ?_; (focus (go_simp; done)); rotate_left; (focus (intro v hv; go_simp; rfl)); go_simp)
            (refine h_read 11 rfl (by kernel_rfl) (by kernel_rfl) ?_ ?_ ?_ ?_; (focus (go_simp; done)); rotate_left; (focus (intro v hv; go_simp; rfl)); go_simp)
            (refine h_read 12 rfl (by kernel_rfl) (by kernel_rfl) ?_ ?_ ?_ ?_; (focus (go_simp; done)); rotate_left; (focus (intro v hv; have q0 := (hv.cell (p := ⟨b, off + m * 3, none⟩) (World.block_lt_of_cell? w2 _ E0.out)).trans E0.out; have q1 := (hv.cell (p := ⟨wr.heap.size, 0, none⟩) (World.block_lt_of_cell? w2 _ C0.out)).trans C0.out; go_simp; rfl)); go_simp)
            (refine h_read 13 rfl (by kernel_rfl) (by kernel_rfl) ?_ ?_ ?_ ?_; (focus (go_simp; done)); rotate_left; (focus (intro v hv; go_simp; rfl)); go_simp)
            (refine h_read 14 rfl (by kernel_rfl) (by kernel_rfl) ?_ ?_ ?_ ?_; (focus (go_simp; done)); rotate_left; (focus (intro v hv; have q0 := (hv.cell (p := ⟨b, off + m * 3, none⟩) (World.block_lt_of_cell? w2 _ E0.out)).trans E0.out; have q1 := (hv.cell (p := ⟨wr.heap.size, 0, none⟩) (World.block_lt_of_cell? w2 _ C0.out)).trans C0.out; go_simp; rfl)); go_simp)
            (refine h_read 15 rfl (by kernel_rfl) (by kernel_rfl) ?_ ?_ ?_ ?_; (focus (go_simp; done)); rotate_left; (focus (intro v hv; go_simp; rfl)); go_simp)
            (refine h_read 16 rfl (by kernel_rfl) (by kernel_rfl) ?_ ?_ ?_ ?_; (focus (go_simp; done)); rotate_left; (focus (intro v hv; go_simp; rfl)); go_simp)
            (refine h_read 17 rfl (by kernel_rfl) (by kernel_rfl) (h_free rfl) ?_ ?_ ?_; rotate_left; (focus (intro v hv; go_simp; rfl)); go_simp)
            refine h_done (by kernel_rfl) ?_
            go_wp2_with fail
            go_roundw
            case rel => exact ⟨m + 1 + 1, vint (by omega), by omega, HN, Lib.hid (B.out.trans ((B2.out.trans (J5.out.mono B2.out.size)).mono B.out.size))⟩
            case measure => simp [intOf]; omega
    · obtain rfl : n = k := by omega
      have hp := P.out
      rw [List.take_of_length_le (by rw [HL.out]; exact Nat.le_refl _)] at hp
      have HF := Lib.hid (show V = true by
        rw [← HV.out]; unfold checkV; rw [hp, HL.out, Bool.true_and]; simpa using h6)
      go_wp2_with fail
      go_ret
      exact ⟨one (vbool (by rw [HF.out])), B.out⟩
end Go.Proofs.Ytiopcojkdglapaa.W

namespace Go.Proofs.Ytiopcojkdglapaa.W
open Go Go.ChangeShapes Go.WideShapes Go.ChangeAt Go.RowKit
open Go.Proofs.Ytiopcojkdglapaa.P (enc dec)
open Go.Proofs.Ytiopcojkdglapaa.B (hasV)

theorem find_no {L : List Sp} {nm : ByteArray} (h : ∀ (i : Nat) (x : Sp), L[i]? = some x → pnamed nm x = false) : findV L nm = (spZ, false) := by
  rw [find_take L nm L.length (Nat.le_refl _) (fun i _ => h i), List.drop_of_length_le (Nat.le_refl _)]; rfl
theorem find_at {L : List Sp} {nm : ByteArray} {k : Nat} {y : Sp} (hy : L[k]? = some y) (hp : pnamed nm y = true) (h : ∀ i, i < k → ∀ x, L[i]? = some x → pnamed nm x = false) : findV L nm = (y, true) := by
  obtain ⟨hk, he⟩ := List.getElem?_eq_some_iff.1 hy
  rw [find_take L nm k (by omega) h, List.drop_eq_getElem_cons hk, he]
  simp only [findV]
  unfold pnamed at hp
  rw [if_pos hp]
set_option maxRecDepth 100000 in
set_option maxHeartbeats 8000000 in
theorem pspFind : SpFindP 19 := by
  intro a n c L nm w h
  have H := Lib.hid h
  have HL := Lib.hid h.hlen
  have hm := h.hmax
  have hle := h.hle
  have SZ := Lib.hid sp_size
  have MZ := Lib.hid sp_zero
  clear h
  rcases first_or (pnamed nm) L with hno | ⟨k, y, hy, hp, hno⟩
  · have HF := Lib.hid (find_no hno)
    have HNO := Lib.hid hno
    clear hno
    go_enter Try.func19, Try.ntmps19
    go_wp2_with (first
      | ((with_reducible refine alloc_row (o := ⟨some 4, _, _, _, _, _⟩) rfl _ rfl _ MZ.out ?_); intro w1 hr hb hz; have R1 := Lib.hid hr; have B1 := Lib.hid hb; clear hr hb hz)
      | (go_at_call 72; (with_reducible refine (spnamed nm w1).mono ?_); rintro x w2 ⟨rfl, hr, hb⟩; have G2 := Lib.hid hr; have R2 := Lib.hid (R1.out.below hb R1.out.lt); have B2 := Lib.hid (B1.out.trans (hb.mono B1.out.size)); clear hr hb)
      | (go_at_call 71; (with_reducible refine (spidxnamed_no nm w1.heap.size a n c L w2 (H.out.mono spOk B2.out) G2.out (fun i _ => HNO.out i)).mono ?_); rintro x w3 ⟨rfl, hb⟩; have R3 := Lib.hid (R2.out.below hb R2.out.lt); have B3 := Lib.hid (B2.out.trans (hb.mono B2.out.size)); clear hb)
      | ((with_reducible refine build_row (o := ⟨some 13, _, _, _, _, _⟩) rfl _ _ rfl (Sp.cells ⟨⟨#[]⟩, 0, 0⟩) ?_ ?_); (focus (go_simp; kernel_rfl)))
      | ((with_reducible refine store_row (o := ⟨none, _, _, _, _, _⟩) rfl _ (.tmp 4) _ rfl w.heap.size (Sp.cells ⟨⟨#[]⟩, 0, 0⟩) ?_ ?_ 24 _ R3.out ?_ ?_ ?_ ?_); (focus go_simp); (focus (first | (go_simp; done) | (go_simp; rfl))); (focus (exact SZ.out)); (focus rfl); (focus (exact sp_one _)); intro w4 hr2 hu2; have R4 := Lib.hid hr2; have B4 := Lib.hid (B3.out.trans (hu2.below (Nat.le_refl _))); clear hr2 hu2))
    exact bodyPost_ret (results_row_tmp rfl _ _ w.heap.size 24 _ _ _ (by go_simp) R4.out Try.underlying24 rfl SZ.out) rfl ⟨by rw [HF.out]; rfl, B4.out⟩
  · have HF := Lib.hid (find_at hy hp hno)
    have HY := Lib.hid hy
    have HP := Lib.hid hp
    have HNO := Lib.hid hno
    have hk : k < n := by rw [← HL.out]; exact (List.getElem?_eq_some_iff.1 hy).1
    have g1 : (0 : Int) ≤ (k : Int) := by omega
    have g2 : (k : Int) < (n : Int) := by omega
    have g3 : ¬ (k : Int) < (0 : Int) := by omega
    obtain ⟨b, off, x2, rfl, hx2, -, -⟩ := H.out.at spOk (Below.refl _ _) k hk
    have HC := Lib.hid (fun w' (hb : Below w.heap.size w w') => (show ∀ j v, (Sp.cells y)[j]? = some v → w'.cell? ⟨b, off + k * 3 + j, none⟩ = some v from by
      obtain ⟨b1, off1, x1, e1, hx1, hcell, -⟩ := H.out.at spOk hb k hk
      injection e1 with e1; injection e1 with e1 e2; subst e1 e2
      rw [HY.out] at hx1; injection hx1 with hx1; subst hx1
      exact hcell))
    clear hno hy hp hx2
    obtain ⟨yn, yr, yw⟩ := y
    go_enter Try.func19, Try.ntmps19
    go_wp2_with (first
      | ((with_reducible refine alloc_row (o := ⟨some 4, _, _, _, _, _⟩) rfl _ rfl _ MZ.out ?_); intro w1 hr hb hz; have R1 := Lib.hid hr; have B1 := Lib.hid hb; clear hr hb hz)
      | (go_at_call 72; (with_reducible refine (spnamed nm w1).mono ?_); rintro x w2 ⟨rfl, hr, hb⟩; have G2 := Lib.hid hr; have R2 := Lib.hid (R1.out.below hb R1.out.lt); have B2 := Lib.hid (B1.out.trans (hb.mono B1.out.size)); clear hr hb)
      | (go_at_call 71; (with_reducible refine (spidxnamed_at nm w1.heap.size _ n c L w2 (H.out.mono spOk B2.out) G2.out k _ HY.out HP.out HNO.out).mono ?_); rintro x w3 ⟨rfl, hb⟩; have R3 := Lib.hid (R2.out.below hb R2.out.lt); have B3 := Lib.hid (B2.out.trans (hb.mono B2.out.size)); clear hb)
      | ((with_reducible refine load_cells (o := ⟨some 17, _, _, _, _, _⟩) rfl _ _ rfl b (off + k * 3) ?_ [.string yn, .int .i64 yr, .int .i64 yw] _ (HC.out w3 B3.out) Try.underlying24 rfl ?_ ?_); (focus go_simp); (focus (exact SZ.out)))
      | ((with_reducible refine store_row (o := ⟨none, _, _, _, _, _⟩) rfl _ (.tmp 4) _ rfl w.heap.size [.string yn, .int .i64 yr, .int .i64 yw] ?_ ?_ 24 _ R3.out ?_ ?_ ?_ ?_); (focus go_simp); (focus (first | (go_simp; done) | (go_simp; rfl))); (focus (exact SZ.out)); (focus rfl); (focus (exact sp_one ⟨yn, yr, yw⟩)); intro w4 hr2 hu2; have R4 := Lib.hid hr2; have B4 := Lib.hid (B3.out.trans (hu2.below (Nat.le_refl _))); clear hr2 hu2))
    exact bodyPost_ret (results_row_tmp rfl _ _ w.heap.size 24 _ _ _ (by go_simp) R4.out Try.underlying24 rfl SZ.out) rfl ⟨by rw [HF.out]; rfl, B4.out⟩
theorem find_zero {L : List Sp} {nm : ByteArray} (h : (findV L nm).2 = false) : (findV L nm).1 = spZ := by
  induction L with
  | nil => rfl
  | cons s L ih =>
    simp only [findV] at h ⊢
    split at h
    · exact absurd h (by simp)
    · rename_i h1
      rw [if_neg h1]; exact ih h
theorem has_zero (cl : Int) : hasV 0 cl = false := by
  unfold hasV
  have : B.T 0 cl.toNat = false := by unfold B.T; simp [B.U]
  rw [this]; simp
set_option maxRecDepth 100000 in
set_option maxHeartbeats 8000000 in
theorem pspMay : SpMayP 25 := by
  intro a n c L nm cl wr w h
  have HF0 := pspFind a n c L nm w h
  have hz := find_zero (L := L) (nm := nm)
  obtain ⟨⟨⟨xn, xr, xw⟩, f⟩, hf⟩ : ∃ q, findV L nm = q := ⟨_, rfl⟩
  unfold mayV
  rw [hf] at HF0 hz ⊢
  dsimp only at HF0 hz ⊢
  rw [show (Sp.cells ⟨xn, xr, xw⟩) = [.string xn, .int .i64 xr, .int .i64 xw] from rfl] at HF0
  have HF := Lib.hid HF0
  have MZ := Lib.hid sp_zero
  have SZ := Lib.hid sp_size
  have h3 : (f && hasV (if wr = true then xw else xr) cl) = hasV (if wr = true then xw else xr) cl := by
    cases f with
    | true => rfl
    | false =>
      have := hz rfl
      injection this with e1 e2 e3
      subst e2 e3
      cases wr <;> simp [has_zero]
  rw [h3]
  obtain ⟨V, hV⟩ : ∃ V, hasV (if wr = true then xw else xr) cl = V := ⟨_, rfl⟩
  rw [hV]
  have HV := Lib.hid hV
  clear HF0 hf h hz h3 hV
  cases wr
  · have HN := Lib.hid (show hasV xr cl = V from HV.out)
    go_enter Try.func25, Try.ntmps25
    go_wp2_with (first
      | (go_at_call 19; (with_reducible refine HF.out.mono ?_); rintro x w1 ⟨rfl, hb⟩; have B1 := Lib.hid hb; clear hb)
      | ((with_reducible refine alloc_row (o := ⟨some 9, _, _, _, _, _⟩) rfl _ rfl _ MZ.out ?_); intro w2 hr hb hz; have R2 := Lib.hid hr; have B2 := Lib.hid (B1.out.trans (hb.mono B1.out.size)); clear hr hb hz)
      | ((with_reducible refine store_row (o := ⟨none, _, _, _, _, _⟩) rfl _ (.tmp 9) _ rfl w1.heap.size [.string xn, .int .i64 xr, .int .i64 xw] ?_ ?_ 24 _ R2.out ?_ ?_ ?_ ?_); (focus go_simp); (focus (first | (go_simp; done) | (go_simp; rfl))); (focus (exact SZ.out)); (focus rfl); (focus (exact sp_one ⟨xn, xr, xw⟩)); intro w3 hr3 hu3; obtain ⟨c0, c1, c2⟩ := hr3.sp3c; have B3 := Lib.hid (B2.out.trans (hu3.below B1.out.size)); clear hr3 hu3)
      | (go_at_call 76; (with_reducible refine (nhas xr cl _).mono ?_); rw [HN.out]; rintro x w' ⟨rfl, rfl⟩))
    go_ret
    exact ⟨rfl, B3.out⟩
  · have HN := Lib.hid (show hasV xw cl = V from HV.out)
    go_enter Try.func25, Try.ntmps25
    go_wp2_with (first
      | (go_at_call 19; (with_reducible refine HF.out.mono ?_); rintro x w1 ⟨rfl, hb⟩; have B1 := Lib.hid hb; clear hb)
      | ((with_reducible refine alloc_row (o := ⟨some 9, _, _, _, _, _⟩) rfl _ rfl _ MZ.out ?_); intro w2 hr hb hz; have R2 := Lib.hid hr; have B2 := Lib.hid (B1.out.trans (hb.mono B1.out.size)); clear hr hb hz)
      | ((with_reducible refine store_row (o := ⟨none, _, _, _, _, _⟩) rfl _ (.tmp 9) _ rfl w1.heap.size [.string xn, .int .i64 xr, .int .i64 xw] ?_ ?_ 24 _ R2.out ?_ ?_ ?_ ?_); (focus go_simp); (focus (first | (go_simp; done) | (go_simp; rfl))); (focus (exact SZ.out)); (focus rfl); (focus (exact sp_one ⟨xn, xr, xw⟩)); intro w3 hr3 hu3; obtain ⟨c0, c1, c2⟩ := hr3.sp3c; have B3 := Lib.hid (B2.out.trans (hu3.below B1.out.size)); clear hr3 hu3)
      | (go_at_call 76; (with_reducible refine (nhas xw cl _).mono ?_); rw [HN.out]; rintro x w' ⟨rfl, rfl⟩))
    go_ret
    exact ⟨rfl, B3.out⟩
end Go.Proofs.Ytiopcojkdglapaa.W

namespace Go.Proofs.Ytiopcojkdglapaa.W
open Go Go.ChangeShapes Go.WideShapes Go.ChangeAt Go.RowKit

theorem lso_ls {w : World} {base n c : Nat} {a : Option Addr} {L : List Sp} (h : LsO spE w base (.slice a n c) L) (hf : ∀ x ∈ L, x.fit) : Ls spE w a n c L := by
  obtain ⟨a', c', hv, hl, -⟩ := h.ls spOk hf
  injection hv with e1 e2 e3
  subst e1 e2 e3
  exact hl
theorem lso_ge {w : World} {base n c g o : Nat} {a : Option Addr} {L : List Sp} (h : LsO spE w base (.slice a n c) L) (e : a = some ⟨g, o, none⟩) : base ≤ g := by
  subst e
  obtain ⟨h1, h2⟩ := h
  rcases h2 with ⟨h2, -⟩ | ⟨g', c', cur, h2, hg, -⟩
  · cases h2
  · injection h2 with h2; injection h2 with h2; injection h2 with h2; omega
set_option maxRecDepth 100000 in
set_option maxHeartbeats 16000000 in
theorem spclone2 (a : Option Addr) (n c : Nat) (L : List Sp) (w : World) (h : Ls spE w a n c L) (hn : n ≤ 1000) :
    Calls Try.prog 16 #[.slice a n c] w fun x w' => ∃ a' c', x = .returned (.slice a' n c') ∧ LsO spE w' w.heap.size (.slice a' n c') L ∧ Below w.heap.size w w' := by
  have H := Lib.hid h
  have hnil := fun (w : World) (a : Option Addr) (n c : Nat) => Lib.run_eql_slice_nil (P := Try.prog) w 22 24 a n c 0 0 Try.underlying22
  rcases a with _ | ad
  · have h0 := h.hnil rfl
    have h1 := h.hle
    have h2 := h.hlen
    obtain rfl : n = 0 := by omega
    have : L = [] := List.eq_nil_of_length_eq_zero h2
    subst this h0
    clear h h1 h2
    go_enter Try.func16, Try.ntmps16
    go_wp2_with fail
    go_ret
    exact ⟨none, 0, rfl, LsO.nil _ _, Below.refl _ _⟩
  · have HL := Lib.hid h.hlen
    have HFIT := Lib.hid (show ∀ x ∈ L, x.fit from h.hfit)
    clear h
    go_enter Try.func16, Try.ntmps16
    go_wp2_with (at_builtin; refine append_ls spOk rfl _ _ rfl w.heap.size _ [] rfl (LsO.empty w _ (Nat.le_refl _)) (some ad) n c L rfl (H.out.mono spOk ((Below.refl _ _).alloc (Nat.le_refl _) _)) (by simp; omega) (by simp) ?_; intro v2 w2 hN hb2 _ _; have N2 := Lib.hid (show LsO spE w2 w.heap.size v2 L from hN); have B2 := Lib.hid (((Below.refl _ _).alloc (Nat.le_refl _) _).trans hb2); clear hN hb2)
    obtain ⟨a2, c2, hv, hls, -⟩ := N2.out.ls spOk HFIT.out
    have h2 := N2.out
    rw [hv] at h2
    subst hv
    rw [HL.out] at hls h2 ⊢
    go_ret
    exact ⟨a2, c2, rfl, h2, B2.out⟩
theorem build_row1 {α : Type} {E : El α} (hE : E.Ok Try.prog) (hf : ∀ y, Instr.fill (fun i => some (i * E.k, E.k)) ((Array.range (1 * E.k)).map (E.z.cells[· % E.z.cells.size]!)) [(0, .agg (E.cells y).toArray)] = some (E.cells y).toArray)
    {w : World} {ops : Array Oper} {rest : List Oper} {o : Oper} {a : Act} {Q : Exit → Act → World → Prop} (hgd : o.guard = none) (x : Operand)
    (ho : o.op = .buildSlice E.sT 1 #[(0, x)]) (y : α) (hx : a.eval x = .agg (E.cells y).toArray) (hk24 : E.k ≤ 1000)
    (h : ∀ w', Row w' w.heap.size E.eT (E.cells y) → Below w.heap.size w w' → w'.heap.size = w.heap.size + 1 → wpList Try.prog ops Q rest (a.put o.dst (.slice (some ⟨w.heap.size, 0, none⟩) 1 1)) w') : wpList Try.prog ops Q (o :: rest) a w := by
  obtain ⟨i0, hi, hz0, hz1, hz2⟩ := info_parts hE.info
  have hp := hE.pos
  refine wpList_buildSlice hgd E.sT E.eT 1 _ ho (E.cells y).toArray i0 _ hE.und hi hz0 (by rw [hz1]; omega) (by rw [hz1]; omega) (by rw [hz1]; simp only [List.map_toArray, List.map_cons, List.map_nil, hx]; exact hf y) ?_
  exact h _ (Row.new _ _ _) ((Below.refl _ _).alloc (Nat.le_refl _) _) (by simp)
theorem eqB_comm (a b : ByteArray) : eqB a b = eqB b a := by unfold eqB; exact Bool.beq_comm
theorem ahead_no {nm : ByteArray} {L : List Sp} (h1 : ∀ (i : Nat) (x : Sp), L[i]? = some x → pnamed nm x = false) (h2 : ∀ (i : Nat) (x : Sp), L[i]? = some x → pabove nm x = false) : aheadV L nm = L.length :=
  ahead_at L L.length (Nat.le_refl _) (fun j _ y hy => lt_total (h2 j y hy) (by rw [eqB_comm]; exact h1 j y hy)) (fun y hy => by rw [List.getElem?_eq_none (Nat.le_refl _)] at hy; cases hy)
theorem ahead_some {nm : ByteArray} {L : List Sp} {k : Nat} {y : Sp} (h1 : ∀ (i : Nat) (x : Sp), L[i]? = some x → pnamed nm x = false) (hy : L[k]? = some y) (hp : pabove nm y = true) (h2 : ∀ i, i < k → ∀ x, L[i]? = some x → pabove nm x = false) : aheadV L nm = k :=
  ahead_at L k (by have := (List.getElem?_eq_some_iff.1 hy).1; omega) (fun j hj x hx => lt_total (h2 j hj x hx) (by rw [eqB_comm]; exact h1 j x hx)) (fun x hx => by rw [hy] at hx; injection hx with hx; subst hx; exact less_asym _ _ hp)
end Go.Proofs.Ytiopcojkdglapaa.W

namespace Go.Proofs.Ytiopcojkdglapaa.W
open Go Go.ChangeShapes Go.WideShapes Go.ChangeAt Go.RowKit
open Go.Proofs.Ytiopcojkdglapaa.P (enc dec)

theorem Fr.ftx {w w' : World} {base g : Nat} {v : Value} {l : List UInt8} (h : Fr w base v l) (hu : Upd w w' g) (hg : v.ownBlock ≠ some g) : Fr w' base v l := by
  obtain ⟨h1, h2⟩ := h
  refine ⟨h1, ?_⟩
  rcases h2 with h2 | ⟨b, cap, cur, rfl, hb, hh, r⟩
  · exact .inl h2
  · exact .inr ⟨b, cap, cur, rfl, hb, by rw [hu.block b (fun e => hg (by rw [e]; rfl))]; exact hh, r⟩
theorem pnum' (a : Option Addr) (len cap : Nat) (n : Int) (l : List UInt8) (w : World) (hr : Rd w a len cap l) (h2 : n ≤ 9223372036854775807) (hmax : len ≤ 140737488355000) :
    Calls Try.prog 86 #[.slice a len cap, .int .i64 n] w fun e w' => ∃ v, e = .returned v ∧ Fr w' w.heap.size v (l ++ enc n.toNat) ∧ Below w.heap.size w w' := by
  have hl9 := P.enc_len n.toNat (by omega)
  have hll : (l ++ enc n.toNat).length = len + (enc n.toNat).length := by rw [List.length_append, hr.hlen]
  refine (pnum a len cap n l w hr h2 hmax).mono ?_
  rintro e w' ⟨rfl, hb, hbe, -⟩
  refine ⟨_, rfl, ?_, hbe⟩
  have := hb.fr (base := w.heap.size) (Nat.le_refl _) (by rw [hll]; omega)
  rwa [hll] at this
theorem ptext' (a : Option Addr) (len cap : Nat) (s : ByteArray) (l : List UInt8) (w : World) (hr : Rd w a len cap l) (hs : s.size ≤ 70000000000000) (hmax : len ≤ 70000000000000) :
    Calls Try.prog 139 #[.slice a len cap, .string s] w fun e w' => ∃ v, e = .returned v ∧ Fr w' w.heap.size v (l ++ (enc s.size ++ s.data.toList)) ∧ Below w.heap.size w w' := by
  have hl9 := P.enc_len s.size (by omega)
  have hsz : s.data.toList.length = s.size := rfl
  have hll : (l ++ (enc s.size ++ s.data.toList)).length = len + ((enc s.size).length + s.size) := by rw [List.length_append, List.length_append, hr.hlen, hsz]
  refine (ptext a len cap s l w hr hs hmax).mono ?_
  rintro e w' ⟨rfl, hb, hbe, -⟩
  refine ⟨_, rfl, ?_, hbe⟩
  have := hb.fr (base := w.heap.size) (Nat.le_refl _) (by rw [hll]; omega)
  rwa [hll] at this
set_option maxRecDepth 100000 in
set_option maxHeartbeats 16000000 in
theorem spcode (s : Sp) (w : World) (hf : s.fit) (hn : s.name.size ≤ 2000000) : Calls Try.prog 87 #[.agg s.cells.toArray] w fun x w' => ∃ v, x = .returned v ∧ Fr w' w.heap.size v (codeS s) ∧ Below w.heap.size w w' := by
  obtain ⟨xn, xr, xw⟩ := s
  have hst : ([] ++ (enc xn.size ++ xn.data.toList)) ++ enc xr.toNat ++ enc xw.toNat = codeS ⟨xn, xr, xw⟩ := by simp [codeS]
  have HST := Lib.hid hst
  have hxr2 := hf.2.1.2
  have hxw2 := hf.2.2.2
  dsimp only at hxr2 hxw2 hn
  have he1 := P.enc_len xn.size (by omega)
  have he2 := P.enc_len xr.toNat (by omega)
  have hsz : xn.data.toList.length = xn.size := rfl
  obtain ⟨q5, hq5⟩ : ∃ q, ([] ++ (enc xn.size ++ xn.data.toList)).length = q := ⟨_, rfl⟩
  obtain ⟨q6, hq6⟩ : ∃ q, ([] ++ (enc xn.size ++ xn.data.toList) ++ enc xr.toNat).length = q := ⟨_, rfl⟩
  have hb5 : q5 ≤ 260000000 := by rw [← hq5]; simp only [List.length_append, List.length_nil]; omega
  have hb6 : q6 ≤ 260000000 := by rw [← hq6]; simp only [List.length_append, List.length_nil]; omega
  have HQ5 := Lib.hid hq5
  have HQ6 := Lib.hid hq6
  clear hst he1 he2 hsz hq5 hq6 hf
  rw [show (Sp.cells ⟨xn, xr, xw⟩) = [.string xn, .int .i64 xr, .int .i64 xw] from rfl]
  go_enter Try.func87, Try.ntmps87
  go_wp2_with (first
    | (with_reducible refine box_row (o := ⟨some 1, _, _, _, _, _⟩) rfl _ _ rfl [.string xn, .int .i64 xr, .int .i64 xw] rfl ?_; intro w1 hr1 hb1 hz1; have E0 := Lib.hid hr1.sp3c.1; have E1 := Lib.hid hr1.sp3c.2.1; have E2 := Lib.hid hr1.sp3c.2.2; have B1 := Lib.hid hb1; clear hr1 hb1 hz1))
  refine region_h (fun v => Below w1.heap.size w1 v) (by kernel_rfl) (by kernel_rfl) (Below.refl _ _).drew ?_
  obtain ⟨wd, hwd⟩ : ∃ wd, w1.drew = wd := ⟨_, rfl⟩
  have D0 : Hid (Below w1.heap.size w1 wd) := Lib.hid (by rw [← hwd]; exact (Below.refl _ _).drew)
  rw [hwd]
  clear hwd
  (refine h_read 0 rfl (by kernel_rfl) (by kernel_rfl) (h_free rfl) ?_ ?_ ?_; rotate_left; (focus (intro v hv; go_simp; rfl)); go_simp)
  (refine h_read 1 rfl (by kernel_rfl) (by kernel_rfl) (h_free rfl) ?_ ?_ ?_; rotate_left; (focus (intro v hv; have q0 := (hv.cell (p := ⟨w.heap.size, 0, none⟩) (World.block_lt_of_cell? w1 _ E0.out)).trans E0.out; have q1 := (hv.cell (p := ⟨w.heap.size, 1, none⟩) (World.block_lt_of_cell? w1 _ E1.out)).trans E1.out; have q2 := (hv.cell (p := ⟨w.heap.size, 2, none⟩) (World.block_lt_of_cell? w1 _ E2.out)).trans E2.out; go_simp; rfl)); go_simp)
  (refine h_read 3 rfl (by kernel_rfl) (by kernel_rfl) (h_free rfl) ?_ ?_ ?_; rotate_left; (focus (intro v hv; go_simp; rfl)); go_simp)
  (refine h_read 4 rfl (by kernel_rfl) (by kernel_rfl) (h_free rfl) ?_ ?_ ?_; rotate_left; (focus (intro v hv; have q0 := (hv.cell (p := ⟨w.heap.size, 0, none⟩) (World.block_lt_of_cell? w1 _ E0.out)).trans E0.out; have q1 := (hv.cell (p := ⟨w.heap.size, 1, none⟩) (World.block_lt_of_cell? w1 _ E1.out)).trans E1.out; have q2 := (hv.cell (p := ⟨w.heap.size, 2, none⟩) (World.block_lt_of_cell? w1 _ E2.out)).trans E2.out; go_simp; rfl)); go_simp)
  (refine h_read 6 rfl (by kernel_rfl) (by kernel_rfl) (h_free rfl) ?_ ?_ ?_; rotate_left; (focus (intro v hv; go_simp; rfl)); go_simp)
  (refine h_read 7 rfl (by kernel_rfl) (by kernel_rfl) (h_free rfl) ?_ ?_ ?_; rotate_left; (focus (intro v hv; have q0 := (hv.cell (p := ⟨w.heap.size, 0, none⟩) (World.block_lt_of_cell? w1 _ E0.out)).trans E0.out; have q1 := (hv.cell (p := ⟨w.heap.size, 1, none⟩) (World.block_lt_of_cell? w1 _ E1.out)).trans E1.out; have q2 := (hv.cell (p := ⟨w.heap.size, 2, none⟩) (World.block_lt_of_cell? w1 _ E2.out)).trans E2.out; go_simp; rfl)); go_simp)
  (refine h_call 2 rfl (by kernel_rfl) (h_free rfl) 139 ?_ ?_ ?_; rotate_left; (focus (go_simp; rfl)))
  refine (ptext' none 0 0 xn [] wd (Rd_nil wd) (by omega) (by omega)).mono ?_
  rintro z w5 ⟨v5, rfl, hf5, hb5⟩
  obtain ⟨a5, c5, hv5, hr5⟩ := hf5.form' q5 HQ5.out
  subst hv5
  have R5 := Lib.hid hr5
  have J5 := Lib.hid (D0.out.trans (hb5.mono D0.out.size))
  clear hf5 hb5 hr5
  refine ⟨_, rfl, J5.out, ?_⟩
  go_simp
  (refine h_call 5 rfl (by kernel_rfl) (h_free rfl) 86 ?_ ?_ ?_; rotate_left; (focus (go_simp; rfl)))
  refine (pnum' a5 q5 c5 xr _ w5 R5.out (by omega) (by omega)).mono ?_
  rintro z w6 ⟨v6, rfl, hf6, hb6⟩
  obtain ⟨a6, c6, hv6, hr6⟩ := hf6.form' q6 HQ6.out
  subst hv6
  have R6 := Lib.hid hr6
  have J6 := Lib.hid (J5.out.trans (hb6.mono J5.out.size))
  clear hf6 hb6 hr6
  refine ⟨_, rfl, J6.out, ?_⟩
  go_simp
  (refine h_call 8 rfl (by kernel_rfl) (h_free rfl) 86 ?_ ?_ ?_; rotate_left; (focus (go_simp; rfl)))
  refine (pnum' a6 q6 c6 xw _ w6 R6.out (by omega) (by omega)).mono ?_
  rw [HST.out]
  rintro z w7 ⟨v7, rfl, hf7, hb7⟩
  have F7 := Lib.hid (hf7.base (Nat.le_trans B1.out.size J6.out.size))
  have J7 := Lib.hid (J6.out.trans (hb7.mono J6.out.size))
  clear hf7 hb7
  refine ⟨_, rfl, J7.out, ?_⟩
  go_simp
  (refine h_read 9 rfl (by kernel_rfl) (by kernel_rfl) (h_free rfl) ?_ ?_ ?_; rotate_left; (focus (intro v hv; go_simp; rfl)); go_simp)
  refine h_done (by kernel_rfl) ?_
  go_wp2_with fail
  go_ret
  exact ⟨_, rfl, F7.out, B1.out.trans (J7.out.mono B1.out.size)⟩
set_option maxRecDepth 100000 in
set_option maxHeartbeats 16000000 in
theorem pspPut : SpPutP 32 := by
  intro a0 m0 c0 S a n c L w hr hm0 h hn hnm
  have H := Lib.hid h
  have HL := Lib.hid h.hlen
  have HR := Lib.hid hr
  have hSl := hr.hlen
  have SZ := Lib.hid sp_size
  have MZ := Lib.hid sp_zero
  have HB := Lib.hid (fun k => codeS_all (L.take k) (fun s hs => ⟨h.hfit s (List.mem_of_mem_take hs), hnm s (List.mem_of_mem_take hs)⟩))
  have HNM := Lib.hid hnm
  have he9 := P.enc_len n (by omega)
  have hm := h.hmax
  have hle := h.hle
  obtain ⟨T, hT⟩ : ∃ T, S ++ enc n = T := ⟨_, rfl⟩
  have hTl : T.length ≤ 2000009 := by rw [← hT, List.length_append]; omega
  have hput : S ++ putV L = T ++ (L.take n).flatMap codeS := by
    rw [← hT, List.take_of_length_le (by rw [h.hlen]; exact Nat.le_refl _)]; unfold putV; rw [h.hlen]; simp
  rw [hput]
  have HT := Lib.hid hT
  have HTL := Lib.hid hTl
  clear h hr hSl hnm hT hTl hput he9
  go_enter Try.func32, Try.ntmps32
  go_wp2_with (first
    | (go_at_call 86; (with_reducible refine (pnum' a0 m0 c0 (n : Int) S w HR.out (by omega) (by omega)).mono ?_); rw [Int.toNat_natCast, HT.out]; rintro x w1 ⟨v, rfl, hf, hb⟩; have F1 := Lib.hid hf; have B1 := Lib.hid hb; clear hf hb))
  go_loopw [5, 14] (fun v i wr => ∃ (k : Nat), i = .int .i64 (k : Int) ∧ k ≤ n ∧ Hid (Fr wr w.heap.size v (T ++ (L.take k).flatMap codeS)) ∧ Hid (Below w.heap.size w wr)) (fun _ i _ => n - (intOf i).toNat)
  case atStart => exact ⟨0, rfl, Nat.zero_le _, Lib.hid (by simpa using F1.out), B1⟩
  case round =>
    obtain ⟨k, rfl, hk, HF, B⟩ := hrel
    by_cases hlt : k < n
    · obtain ⟨b, o, s, rfl, hx, hcell, hfs⟩ := H.out.at spOk B.out k hlt
      have hstep := codeS_step L k _ hx
      have hmem : s ∈ L := by
        obtain ⟨h1, h2⟩ := List.getElem?_eq_some_iff.1 hx
        rw [← h2]; exact List.getElem_mem h1
      have hns := HNM.out _ hmem
      have hbl := HB.out k
      have hlk : (L.take k).length ≤ 100 := by rw [List.length_take]; omega
      have hcur : (T ++ (L.take k).flatMap codeS).length ≤ 250000000 := by
        rw [List.length_append]; have := HTL.out; have : (L.take k).length * 2000027 ≤ 100 * 2000027 := Nat.mul_le_mul_right _ hlk; omega
      have hcl := codeS_len hfs hns
      have HC := Lib.hid (fun w => spcode s w hfs hns)
      obtain ⟨U, hU⟩ : ∃ U, T ++ (L.take k).flatMap codeS = U := ⟨_, rfl⟩
      rw [hU] at HF hcur
      have hst : T ++ (L.take (k + 1)).flatMap codeS = U ++ codeS s := by
        rw [hstep, ← hU]; simp
      obtain ⟨D, hD⟩ : ∃ D, codeS s = D := ⟨_, rfl⟩
      rw [hD] at hst hcl
      simp only [hD] at HC
      obtain ⟨dl, hdl⟩ : ∃ q, D.length = q := ⟨_, rfl⟩
      have HST := Lib.hid hst
      have HCU := Lib.hid hcur
      have HCL := Lib.hid (show dl ≤ 2000027 by rw [← hdl]; exact hcl)
      have HDL := Lib.hid hdl
      obtain ⟨xn, xr, xw⟩ := s
      have XC := Lib.hid hcell
      have g1 : (0 : Int) ≤ (k : Int) := by omega
      have g2 : (k : Int) < (n : Int) := by omega
      clear hstep hmem hbl hlk hU hst hcell hfs hns hx hcur hcl hD hdl
      go_wp2_with (first
        | ((with_reducible refine load_cells (o := ⟨some 17, _, _, _, _, _⟩) rfl _ _ rfl b (o + k * 3) ?_ [.string xn, .int .i64 xr, .int .i64 xw] _ XC.out Try.underlying24 rfl ?_ ?_); (focus go_simp); (focus (exact SZ.out)))
        | ((with_reducible refine alloc_row (o := ⟨some 7, _, _, _, _, _⟩) rfl _ rfl _ MZ.out ?_); intro w1 hr hb hz; have R1 := Lib.hid hr; have F1' := Lib.hid (HF.out.kept hb); have B1' := Lib.hid (B.out.trans (hb.mono B.out.size)); have NE := Lib.hid (show ∀ q, u5.ownBlock = some q → q < wr.heap.size from fun q e => (World.ownsRow.lt HF.out q e).2); clear hr hb hz)
        | ((with_reducible refine store_row (o := ⟨none, _, _, _, _, _⟩) rfl _ (.tmp 7) _ rfl wr.heap.size [.string xn, .int .i64 xr, .int .i64 xw] ?_ ?_ 24 _ R1.out ?_ ?_ ?_ ?_); (focus go_simp); (focus (first | (go_simp; done) | (go_simp; rfl))); (focus (exact SZ.out)); (focus rfl); (focus (exact sp_one ⟨xn, xr, xw⟩)); intro w2 hr hu; have R2 := Lib.hid hr; have F2 := Lib.hid (F1'.out.ftx hu (fun e => absurd (NE.out _ e) (Nat.lt_irrefl _))); have B2 := Lib.hid (B1'.out.trans (hu.below B.out.size)); clear hr hu)
        | ((with_reducible refine load_row (o := ⟨some 19, _, _, _, _, _⟩) rfl _ _ rfl wr.heap.size ?_ _ [.string xn, .int .i64 xr, .int .i64 xw] _ R2.out Try.underlying24 rfl ?_ ?_); (focus go_simp); (focus (exact SZ.out)))
        | (go_at_call 87; (with_reducible refine (HC.out w2).mono ?_); rintro x w3 ⟨v3, rfl, hf, hb⟩; obtain ⟨a3, c3, hv3, hr3⟩ := hf.form' dl HDL.out; subst hv3; have R3 := Lib.hid hr3; have F3 := Lib.hid (F2.out.kept hb); have B3 := Lib.hid (B2.out.trans (hb.mono B2.out.size)); clear hf hb hr3)
        | (at_builtin; (with_reducible refine append_rd (o := ⟨some 21, _, _, _, _, _⟩) rfl _ _ rfl w.heap.size u5 U ?_ F3.out a3 dl c3 D ?_ R3.out ?_ B3.out.size ?_); (focus (first | (go_simp; done) | (go_simp; rfl))); (focus (first | (go_simp; done) | (go_simp; rfl))); (focus (have := HCU.out; have := HCL.out; omega)); intro v4 w4 hf hb _; rw [← HST.out] at hf; have F4 := Lib.hid hf; have B4 := Lib.hid (B3.out.trans hb); clear hf hb))
      go_roundw
      case rel => exact ⟨k + 1, vint (by omega), by omega, F4, B4⟩
      case measure => simp [intOf]; omega
    · obtain rfl : n = k := by omega
      go_wp2_with fail
      go_ret
      exact ⟨_, rfl, HF.out, B.out⟩
set_option maxRecDepth 100000 in
set_option maxHeartbeats 8000000 in
theorem spequalV (a a' : Option Addr) (n c n' c' : Nat) (L M : List Sp) (w : World) (h1 : Ls spE w a n c L) (h2 : Ls spE w a' n' c' M) (V : Bool) (hV : V = true ↔ L = M) :
    Calls Try.prog 24 #[.slice a n c, .slice a' n' c'] w fun x w' => x = .returned (.bool V) ∧ Below w.heap.size w w' := by
  have H1 := Lib.hid h1
  have H2 := Lib.hid h2
  have HV := Lib.hid hV
  have hm := h1.hmax
  have hle := h1.hle
  have HL1 := Lib.hid h1.hlen
  have HL2 := Lib.hid h2.hlen
  clear h1 h2 hV
  by_cases hn : n = n'
  · have hq : ((n : Int) != (n' : Int)) = false := by simp [hn]
    have HN := Lib.hid hn
    clear hn
    go_enter Try.func24, Try.ntmps24
    go_wp2_with fail
    go_loopw [13] (fun i wr => ∃ k : Nat, i = .int .i64 (k : Int) ∧ k ≤ n ∧ Hid (L.take k = M.take k) ∧ Hid (Below w.heap.size w wr)) (fun i _ => n - (intOf i).toNat)
    case atStart => exact ⟨0, rfl, Nat.zero_le _, Lib.hid rfl, Lib.hid (Below.refl _ _)⟩
    case round =>
      obtain ⟨k, rfl, hk, P, B⟩ := hrel
      by_cases hlt : k < n
      · obtain ⟨b, o, x, rfl, hx1, hc1, hf1⟩ := H1.out.at spOk B.out k hlt
        obtain ⟨b', o', y, rfl, hx2, hc2, hf2⟩ := H2.out.at spOk B.out k (by rw [← HN.out]; exact hlt)
        have X1 := Lib.hid hc1
        have X2 := Lib.hid hc2
        have KE := Lib.hid (fun w => eqSp x y hf1 hf2 w)
        obtain ⟨q, hq3⟩ : ∃ q, x.eqb y = q := ⟨_, rfl⟩
        rw [hq3] at KE
        have g1 : (0 : Int) ≤ (k : Int) := by omega
        have g2 : (k : Int) < (n : Int) := by omega
        have g3 : (k : Int) < (n' : Int) := by have := HN.out; omega
        have HX1 := Lib.hid hx1
        have HX2 := Lib.hid hx2
        have HQ := Lib.hid hq3
        clear hc1 hc2 hf1 hf2 hx1 hx2 hq3
        obtain ⟨xn, xr, xw⟩ := x
        obtain ⟨yn, yr, yw⟩ := y
        go_wp2_with fail
        refine region_h (fun v => Below wr.heap.size wr v) (by kernel_rfl) (by kernel_rfl) (Below.refl _ _).drew ?_
        obtain ⟨wd, hwd⟩ : ∃ wd, wr.drew = wd := ⟨_, rfl⟩
        have D0 : Hid (Below wr.heap.size wr wd) := Lib.hid (by rw [← hwd]; exact (Below.refl _ _).drew)
        rw [hwd]
        clear hwd
        rcases q with _ | _
        · have HF := Lib.hid (show V = false by
            cases hh : V with
            | false => rfl
            | true =>
              have h3 := HV.out.1 hh
              have h4 := HX1.out
              rw [h3, HX2.out] at h4
              exact absurd ((Sp.eqb_iff _ _).2 (Option.some.inj h4).symm) (by rw [HQ.out]; decide))
          have HNE := Lib.hid (show xn.toList = yn.toList → xr = yr → ¬ xw = yw from fun h1 h2 h3 => by
            have h4 : xn = yn := (eqB_iff _ _).1 (by unfold eqB; rw [h1]; simp)
            exact absurd ((Sp.eqb_iff ⟨xn, xr, xw⟩ ⟨yn, yr, yw⟩).2 (by rw [h4, h2, h3])) (by rw [HQ.out]; decide))
          (refine h_read 0 rfl (by kernel_rfl) (by kernel_rfl) (h_free rfl) ?_ ?_ ?_; rotate_left; (focus (intro v hv; go_simp; rfl)); go_simp)
          (refine h_read 1 rfl (by kernel_rfl) (by kernel_rfl) (h_free rfl) ?_ ?_ ?_; rotate_left; (focus (intro v hv; go_simp; rfl)); go_simp)
          (refine h_read 2 rfl (by kernel_rfl) (by kernel_rfl) (h_free rfl) ?_ ?_ ?_; rotate_left; (focus (intro v hv; go_simp; rfl)); go_simp)
          (refine h_read 3 rfl (by kernel_rfl) (by kernel_rfl) (h_free rfl) ?_ ?_ ?_; rotate_left; (focus (intro v hv; refine run_cells 24 (.tmp 18) ?_ b (o + k * 3) ?_ [.string xn, .int .i64 xr, .int .i64 xw] _ (fun j' u hj => by rw [hv.cell (p := ⟨b, o + k * 3 + j', none⟩) (World.block_lt_of_cell? wr _ (X1.out j' u hj))]; exact X1.out j' u hj) Try.underlying24 rfl sp_size; (focus rfl); go_simp)); go_simp)
          (refine h_read 4 rfl (by kernel_rfl) (by kernel_rfl) (h_free rfl) ?_ ?_ ?_; rotate_left; (focus (intro v hv; go_simp; rfl)); go_simp)
          (refine h_read 5 rfl (by kernel_rfl) (by kernel_rfl) (h_free rfl) ?_ ?_ ?_; rotate_left; (focus (intro v hv; go_simp; rfl)); go_simp)
          (refine h_read 6 rfl (by kernel_rfl) (by kernel_rfl) (h_free rfl) ?_ ?_ ?_; rotate_left; (focus (intro v hv; go_simp; rfl)); go_simp)
          (refine h_read 7 rfl (by kernel_rfl) (by kernel_rfl) (h_free rfl) ?_ ?_ ?_; rotate_left; (focus (intro v hv; refine run_cells 24 (.tmp 22) ?_ b' (o' + k * 3) ?_ [.string yn, .int .i64 yr, .int .i64 yw] _ (fun j' u hj => by rw [hv.cell (p := ⟨b', o' + k * 3 + j', none⟩) (World.block_lt_of_cell? wr _ (X2.out j' u hj))]; exact X2.out j' u hj) Try.underlying24 rfl sp_size; (focus rfl); go_simp)); go_simp)
          (refine h_read 8 rfl (by kernel_rfl) (by kernel_rfl) (h_free rfl) (.bool true) ?_ ?_; (focus (intro v hv; first | (go_simp; done) | (go_simp; exact HNE.out) | (go_simp; simp))); go_simp)
          refine h_done (by kernel_rfl) ?_
          go_wp2_with fail
          go_ret
          exact ⟨one (vbool (by rw [HF.out])), B.out.trans (D0.out.mono B.out.size)⟩
        · have hxy := (Sp.eqb_iff _ _).1 HQ.out
          have HNX := Lib.hid (sp_next L M k _ HX1.out (by rw [hxy]; exact HX2.out) P.out)
          injection hxy with i1 i2 i3
          subst i1 i2 i3
          (refine h_read 0 rfl (by kernel_rfl) (by kernel_rfl) (h_free rfl) ?_ ?_ ?_; rotate_left; (focus (intro v hv; go_simp; rfl)); go_simp)
          (refine h_read 1 rfl (by kernel_rfl) (by kernel_rfl) (h_free rfl) ?_ ?_ ?_; rotate_left; (focus (intro v hv; go_simp; rfl)); go_simp)
          (refine h_read 2 rfl (by kernel_rfl) (by kernel_rfl) (h_free rfl) ?_ ?_ ?_; rotate_left; (focus (intro v hv; go_simp; rfl)); go_simp)
          (refine h_read 3 rfl (by kernel_rfl) (by kernel_rfl) (h_free rfl) ?_ ?_ ?_; rotate_left; (focus (intro v hv; refine run_cells 24 (.tmp 18) ?_ b (o + k * 3) ?_ [.string xn, .int .i64 xr, .int .i64 xw] _ (fun j' u hj => by rw [hv.cell (p := ⟨b, o + k * 3 + j', none⟩) (World.block_lt_of_cell? wr _ (X1.out j' u hj))]; exact X1.out j' u hj) Try.underlying24 rfl sp_size; (focus rfl); go_simp)); go_simp)
          (refine h_read 4 rfl (by kernel_rfl) (by kernel_rfl) (h_free rfl) ?_ ?_ ?_; rotate_left; (focus (intro v hv; go_simp; rfl)); go_simp)
          (refine h_read 5 rfl (by kernel_rfl) (by kernel_rfl) (h_free rfl) ?_ ?_ ?_; rotate_left; (focus (intro v hv; go_simp; rfl)); go_simp)
          (refine h_read 6 rfl (by kernel_rfl) (by kernel_rfl) (h_free rfl) ?_ ?_ ?_; rotate_left; (focus (intro v hv; go_simp; rfl)); go_simp)
          (refine h_read 7 rfl (by kernel_rfl) (by kernel_rfl) (h_free rfl) ?_ ?_ ?_; rotate_left; (focus (intro v hv; refine run_cells 24 (.tmp 22) ?_ b' (o' + k * 3) ?_ [.string xn, .int .i64 xr, .int .i64 xw] _ (fun j' u hj => by rw [hv.cell (p := ⟨b', o' + k * 3 + j', none⟩) (World.block_lt_of_cell? wr _ (X2.out j' u hj))]; exact X2.out j' u hj) Try.underlying24 rfl sp_size; (focus rfl); go_simp)); go_simp)
          (refine h_read 8 rfl (by kernel_rfl) (by kernel_rfl) (h_free rfl) (.bool false) ?_ ?_; (focus (intro v hv; first | (go_simp; done) | (go_simp; exact HNE.out) | (go_simp; simp))); go_simp)
          refine h_done (by kernel_rfl) ?_
          go_wp2_with fail
          go_roundw
          case rel => exact ⟨k + 1, vint (by omega), by omega, HNX, Lib.hid (B.out.trans (D0.out.mono B.out.size))⟩
          case measure => simp [intOf]; omega
      · obtain rfl : n = k := by omega
        have hp := P.out
        rw [List.take_of_length_le (by rw [HL1.out]; exact Nat.le_refl _), List.take_of_length_le (by rw [HL2.out, HN.out]; exact Nat.le_refl _)] at hp
        have HF := Lib.hid (show V = true from HV.out.2 hp)
        go_wp2_with fail
        go_ret
        exact ⟨one (vbool (by rw [HF.out])), B.out⟩
  · have hq : ((n : Int) != (n' : Int)) = true := by simp; omega
    have HF := Lib.hid (show V = false by
      cases hh : V with
      | false => rfl
      | true =>
        have h3 := congrArg List.length (HV.out.1 hh)
        rw [HL1.out, HL2.out] at h3
        exact absurd h3 hn)
    go_enter Try.func24, Try.ntmps24
    go_wp2_with fail
    go_ret
    exact ⟨one (vbool (by rw [HF.out])), Below.refl _ _⟩
set_option maxRecDepth 100000 in
set_option maxHeartbeats 4000000 in
theorem pspSame : SpSameP 38 := by
  intro a a' n c n' c' L M w h1 h2 V hV
  have HC := Lib.hid (spequalV a a' n c n' c' L M w h1 h2 V hV)
  clear h1 h2 hV
  go_enter Try.func38, Try.ntmps38
  go_wp2_with (go_at_call 24; (with_reducible refine HC.out.mono ?_); rintro x w1 ⟨rfl, hb⟩; have B1 := Lib.hid hb; clear hb)
  go_ret
  exact ⟨rfl, B1.out⟩
end Go.Proofs.Ytiopcojkdglapaa.W

namespace Go.Proofs.Ytiopcojkdglapaa.W
open Go Go.ChangeShapes Go.WideShapes Go.ChangeAt Go.RowKit
open Go.Proofs.Ytiopcojkdglapaa.P (enc dec)

theorem built_sp3 (s : ByteArray) (a b : Int) : Try.prog.built 24 [(0, .string s), (1, .int .i64 a), (2, .int .i64 b)] = some (Sp.cells ⟨s, a, b⟩).toArray := by kernel_rfl
set_option maxRecDepth 100000 in
set_option maxHeartbeats 16000000 in
theorem pspRead : SpReadP 29 := by
  intro p l e w h
  have H := Lib.hid h
  have SZ := Lib.hid sp_size
  have hn6 := num_le 6 (by decide) l e
  unfold readZ
  obtain ⟨n, l1, e1, hq⟩ : ∃ a b c, numR 6 l e = (a, b, c) := ⟨_, _, _, rfl⟩
  rw [hq] at hn6 ⊢
  dsimp only at hn6 ⊢
  have HQ := Lib.hid hq
  have hn : n ≤ 6 := by omega
  obtain ⟨Z, hZ⟩ : ∃ Z, endZ (rdSps n l1 e1) = Z := ⟨_, rfl⟩
  rw [hZ]
  have HZ := Lib.hid hZ
  clear h hq hn6 hZ
  go_enter Try.func29, Try.ntmps29
  go_wp2_with (first
    | (go_at_call 80; (with_reducible refine (pnumR p 6 l e w H.out).mono ?_); rw [HQ.out]; rintro x w1 ⟨rfl, hP, hu⟩; have P0 := Lib.hid hP; have G0 := Lib.hid (Gw.upd hu); clear hP hu))
  go_loopw [3, 6] (fun v i wr => ∃ (k : Nat) (Lk : List Sp) (lk : List UInt8) (ek : Int), i = .int .i64 (k : Int) ∧ k ≤ n ∧ Hid (rdSps k l1 e1 = (Lk, lk, ek)) ∧ Hid (LsN spE wr w.heap.size v Lk) ∧ Hid (RP wr p lk ek) ∧ Hid (Gw p w wr)) (fun _ i _ => n - (intOf i).toNat)
  case atStart => exact ⟨0, [], l1, e1, rfl, Nat.zero_le _, Lib.hid rfl, Lib.hid (LsN.nil _ _), P0, G0⟩
  case round =>
    obtain ⟨k, Lk, lk, ek, rfl, hk, HK, N, PR, G⟩ := hrel
    by_cases hlt : k < n
    · obtain ⟨tx, l2, e2, ht⟩ : ∃ a b c, textR 16 lk ek = (a, b, c) := ⟨_, _, _, rfl⟩
      obtain ⟨na, l3, e3, ha⟩ : ∃ a b c, numR 255 l2 e2 = (a, b, c) := ⟨_, _, _, rfl⟩
      obtain ⟨nb, l4, e4, hb4⟩ : ∃ a b c, numR 255 l3 e3 = (a, b, c) := ⟨_, _, _, rfl⟩
      have hrd : rdSp lk ek = (⟨str tx, (na : Int), (nb : Int)⟩, l4, e4) := by unfold rdSp; rw [ht]; dsimp only; rw [ha]; dsimp only; rw [hb4]
      have hft := rdSp_fit lk ek
      rw [hrd] at hft
      have HK2 := Lib.hid (show rdSps (k + 1) l1 e1 = (Lk ++ [⟨str tx, (na : Int), (nb : Int)⟩], l4, e4) by simp only [rdSps]; rw [HK.out]; dsimp only; rw [hrd])
      have FT := Lib.hid hft
      have HT := Lib.hid ht
      have HA := Lib.hid ha
      have HB := Lib.hid hb4
      have LL := Lib.hid (show Lk.length ≤ 6 by have := rdSps_len l1 e1 k; rw [HK.out] at this; dsimp only at this; omega)
      have g2 : (k : Int) < (n : Int) := by omega
      clear ht ha hb4 hrd hft
      go_wp2_with (first
        | (go_at_call 81; (with_reducible refine (ptextR p 16 lk ek wr PR.out).mono ?_); rw [HT.out]; rintro x w1 ⟨rfl, hP, hu⟩; have P1 := Lib.hid hP; have N1 := Lib.hid (LsN.rp spNb N.out PR.out (Gw.upd hu)); have G1 := Lib.hid (G.out.trans (Gw.upd hu)); clear hP hu)
        | (go_at_call 80; (with_reducible refine (pnumR p 255 l2 e2 w1 P1.out).mono ?_); rw [HA.out]; rintro x w2 ⟨rfl, hP, hu⟩; have P2 := Lib.hid hP; have N2 := Lib.hid (LsN.rp spNb N1.out P1.out (Gw.upd hu)); have G2 := Lib.hid (G1.out.trans (Gw.upd hu)); clear hP hu)
        | (go_at_call 80; (with_reducible refine (pnumR p 255 l3 e3 w2 P2.out).mono ?_); rw [HB.out]; rintro x w3 ⟨rfl, hP, hu⟩; have P3 := Lib.hid hP; have N3 := Lib.hid (LsN.rp spNb N2.out P2.out (Gw.upd hu)); have G3 := Lib.hid (G2.out.trans (Gw.upd hu)); clear hP hu)
        | ((with_reducible refine build_row (o := ⟨some 15, _, _, _, _, _⟩) rfl _ _ rfl (Sp.cells ⟨str tx, (na : Int), (nb : Int)⟩) ?_ ?_); (focus (go_simp; exact built_sp3 _ _ _)))
        | ((with_reducible refine build_ls spOk sp_fill (o := ⟨some 16, _, _, _, _, _⟩) rfl _ rfl ⟨str tx, (na : Int), (nb : Int)⟩ ?_ ?_ (by decide) ?_); (focus (first | (go_simp; done) | (go_simp; rfl))); (focus (exact FT.out)); intro w8 hl hb hz; have Q8 := Lib.hid hl; have P8 := Lib.hid (P3.out.mono hb); have N8 := Lib.hid (N3.out.kept hb); have G8 := Lib.hid (G3.out.trans (Gw.of_below hb)); clear hl hb hz)
        | (at_builtin; (with_reducible refine append_lsn spOk spNb (o := ⟨some 17, _, _, _, _, _⟩) rfl _ _ rfl w.heap.size u3 Lk ?_ N8.out _ 0 1 1 [⟨str tx, (na : Int), (nb : Int)⟩] ?_ Q8.out (by decide) ?_ G8.out.size ?_); (focus (first | (go_simp; done) | (go_simp; rfl))); (focus (first | (go_simp; done) | (go_simp; rfl))); (focus (have := LL.out; omega)); intro v9 w9 hN hb hg; have N9 := Lib.hid hN; have P9 := Lib.hid (RP.ownL spNb P8.out N8.out hg); have G9 := Lib.hid (gw_below G8.out hb); clear hN hb hg))
      go_roundw
      case rel => exact ⟨k + 1, Lk ++ [⟨str tx, (na : Int), (nb : Int)⟩], l4, e4, vint (by omega), by omega, HK2, N9, P9, G9⟩
      case measure => simp [intOf]; omega
    · obtain rfl : n = k := by omega
      have hfit : ∀ s ∈ Lk, s.fit := by have := rdSps_fit l1 e1 n; rw [HK.out] at this; exact this
      obtain ⟨a, c, hv, hls, -⟩ := (N.out.lso spOk).ls spOk hfit
      have hZ := HZ.out
      rw [HK.out] at hZ
      unfold endZ at hZ
      dsimp only at hZ
      subst hv
      obtain ⟨ck, hck⟩ : ∃ b, checkV Lk = b := ⟨_, rfl⟩
      have HC : Hid (Calls Try.prog 22 #[.slice a Lk.length c] wr fun x w' => x = .returned (.bool ck) ∧ Below wr.heap.size wr w') := Lib.hid (by rw [← hck]; exact pspCheck a Lk.length c Lk wr hls)
      have HLS := Lib.hid hls
      rw [hck] at hZ
      obtain ⟨m, hm⟩ : ∃ m, Lk.length = m := ⟨_, rfl⟩
      rw [hm] at N HC HLS ⊢
      clear hls hfit hck hm
      by_cases hek : ek = 0
      · subst hek
        rw [if_pos rfl] at hZ
        cases ck
        · rw [if_neg (by decide)] at hZ
          subst hZ
          go_wp2_with (first
            | (go_at_call 22; (with_reducible refine HC.out.mono ?_); rintro x w2 ⟨rfl, hb⟩; have P2 := Lib.hid (PR.out.mono hb); have G2 := Lib.hid (G.out.trans (Gw.of_below hb)); clear hb)
            | (go_at_call 82; (with_reducible refine (pfail p lk 0 3 w2 P2.out).mono ?_); rintro x w3 ⟨rfl, hP, hu⟩; have P3 := Lib.hid (show RP w3 p [] 3 from hP); have G3 := Lib.hid (G2.out.trans (Gw.upd hu)); clear hP hu)
            | (go_at_call 34; (with_reducible refine (perr p [] 3 w3 P3.out).mono ?_); rintro x w' ⟨rfl, rfl⟩))
          go_ret
          exact ⟨_, _, _, rfl, Ls.nil _, P3.out, G3.out⟩
        · rw [if_pos rfl] at hZ
          subst hZ
          go_wp2_with (first
            | (go_at_call 22; (with_reducible refine HC.out.mono ?_); rintro x w2 ⟨rfl, hb⟩; have P2 := Lib.hid (PR.out.mono hb); have L2 := Lib.hid (HLS.out.mono spOk hb); have G2 := Lib.hid (G.out.trans (Gw.of_below hb)); clear hb)
            | (go_at_call 34; (with_reducible refine (perr p lk 0 w2 P2.out).mono ?_); rintro x w' ⟨rfl, rfl⟩))
          go_ret
          exact ⟨_, _, _, rfl, L2.out, P2.out, G2.out⟩
      · have hq : (ek == 0) = false := by simpa using hek
        have hq2 : (ek != 0) = true := by simpa using hek
        rw [if_neg hek] at hZ
        subst hZ
        have hfl : failL lk ek 3 = lk := by unfold failL; rw [if_pos (.inl hek)]
        have hfe : failE ek 3 = ek := by unfold failE; rw [if_pos (.inl hek)]
        have HF2 := Lib.hid hfl
        have HF3 := Lib.hid hfe
        clear hfl hfe
        cases ck
        · go_wp2_with (first
            | (go_at_call 22; (with_reducible refine HC.out.mono ?_); rintro x w2 ⟨rfl, hb⟩; have P2 := Lib.hid (PR.out.mono hb); have G2 := Lib.hid (G.out.trans (Gw.of_below hb)); clear hb)
            | (go_at_call 82; (with_reducible refine (pfail p lk ek 3 w2 P2.out).mono ?_); rintro x w3 ⟨rfl, hP, hu⟩; rw [HF2.out, HF3.out] at hP; have P3 := Lib.hid hP; have G3 := Lib.hid (G2.out.trans (Gw.upd hu)); clear hP hu)
            | (go_at_call 34; (with_reducible refine (perr p lk ek w3 P3.out).mono ?_); rintro x w' ⟨rfl, rfl⟩))
          go_ret
          exact ⟨_, _, _, rfl, Ls.nil _, P3.out, G3.out⟩
        · go_wp2_with (first
            | (go_at_call 22; (with_reducible refine HC.out.mono ?_); rintro x w2 ⟨rfl, hb⟩; have P2 := Lib.hid (PR.out.mono hb); have G2 := Lib.hid (G.out.trans (Gw.of_below hb)); clear hb)
            | (go_at_call 34; (with_reducible refine (perr p lk ek w2 P2.out).mono ?_); rintro x w' ⟨rfl, rfl⟩))
          go_ret
          exact ⟨_, _, _, rfl, Ls.nil _, P2.out, G2.out⟩
end Go.Proofs.Ytiopcojkdglapaa.W

namespace Go.Proofs.Ytiopcojkdglapaa.W
open Go Go.ChangeShapes Go.WideShapes Go.ChangeAt Go.RowKit

set_option maxRecDepth 100000 in
set_option maxHeartbeats 8000000 in
theorem spigrow (n : Nat) (w : World) (hn : n ≤ 100000) : Calls Try.prog 154 #[.slice none 0 0, .int .i64 (n : Int)] w fun x w' => ∃ v, x = .returned v ∧ LsO spE w' w.heap.size v [] ∧ Below w.heap.size w w' := by
  have SZ := Lib.hid sp_size
  rcases Nat.eq_zero_or_pos n with rfl | h0
  · go_enter Try.func154, Try.ntmps154
    go_wp2_with fail
    go_ret
    exact ⟨_, rfl, LsO.nil _ _, Below.refl _ _⟩
  · have g0 : (0 : Int) < (n : Int) := by omega
    have gw : IntKind.i64.wrap (n : Int) = (n : Int) := by rw [IntKind.wrap_i64]; omega
    go_enter Try.func154, Try.ntmps154
    go_wp2_with (first
      | ((with_reducible refine append_zeros0 spOk (o := ⟨some 22, _, _, _, _, _⟩) rfl (.tmp 20) (.tmp 21) 3 .i64 Try.underlying3 rfl n (n : Int) ?_ ?_ rfl h0 (by omega) ?_); (focus (first | (go_simp; done) | (go_simp; rfl))); (focus (first | (go_simp; done) | (go_simp; rfl) | (go_simp; omega))); intro w1 G hl hG hm hb; have L1 := Lib.hid hl; have B1 := Lib.hid hb; have g1 : (0 : Int) ≤ (G : Int) := by omega
         clear hl hb))
    go_ret
    exact ⟨_, rfl, L1.out, B1.out⟩
theorem spis_info : (Try.prog.info? 22).map (fun i => (i.zero, i.size, i.bytes)) = some (some (.slice none 0 0), 1, 24) := by kernel_rfl
theorem spis_size : (Try.prog.info? 22).map (·.size) = some 1 := by kernel_rfl
set_option maxRecDepth 100000 in
/-- BUILD of a slice of three slices -/
theorem spibs3 {w : World} {ops : Array Oper} {rest : List Oper} {o : Oper} {a : Act} {Q : Exit → Act → World → Prop} (hgd : o.guard = none) (x0 x1 x2 : Operand)
    (ho : o.op = .buildSlice 156 3 #[(0, x0), (1, x1), (2, x2)]) (a0 a1 a2 : Option Addr) (n0 c0 n1 c1 n2 c2 : Nat) (h0 : a.eval x0 = .slice a0 n0 c0) (h1 : a.eval x1 = .slice a1 n1 c1) (h2 : a.eval x2 = .slice a2 n2 c2)
    (hk : ∀ w', Row w' w.heap.size 22 [.slice a0 n0 c0, .slice a1 n1 c1, .slice a2 n2 c2] → Below w.heap.size w w' → w'.heap.size = w.heap.size + 1 → wpList Try.prog ops Q rest (a.put o.dst (.slice (some ⟨w.heap.size, 0, none⟩) 3 3)) w') : wpList Try.prog ops Q (o :: rest) a w := by
  obtain ⟨i0, hi0, hz0, hz1, hz2⟩ := info_parts spis_info
  refine wpList_buildSlice hgd 156 22 3 _ ho #[.slice a0 n0 c0, .slice a1 n1 c1, .slice a2 n2 c2] i0 _ Try.underlying156 hi0 hz0 (by rw [hz1]; decide) (by rw [hz1]; decide) (by rw [hz1]; simp only [List.map_toArray, List.map_cons, List.map_nil, h0, h1, h2]; go_simp; first | done | rfl) ?_
  exact hk _ (Row.new _ _ _) ((Below.refl _ _).alloc (Nat.le_refl _) _) (by simp)
theorem spik3 {w : World} {g : Nat} {t : TypeId} {a b c : Value} (h : Row w g t [a, b, c]) : w.cell? ⟨g, 0, none⟩ = some a ∧ w.cell? ⟨g, 1, none⟩ = some b ∧ w.cell? ⟨g, 2, none⟩ = some c := by
  refine ⟨?_, ?_, ?_⟩ <;> (rw [h.cellV]; rfl)
set_option maxRecDepth 100000 in
set_option maxHeartbeats 16000000 in
theorem spiconcat (bx : Nat) (a0 a1 a2 : Option Addr) (n0 c0 n1 c1 n2 c2 : Nat) (L0 L1 L2 : List Sp) (w : World) (hr : Row w bx 22 [.slice a0 n0 c0, .slice a1 n1 c1, .slice a2 n2 c2]) (h0 : Ls spE w a0 n0 c0 L0) (h1 : Ls spE w a1 n1 c1 L1) (h2 : Ls spE w a2 n2 c2 L2) (hm : n0 + n1 + n2 ≤ 1000) :
    Calls Try.prog 130 #[.slice (some ⟨bx, 0, none⟩) 3 3] w fun x w' => ∃ v', x = .returned v' ∧ LsO spE w' w.heap.size v' (L0 ++ L1 ++ L2) ∧ Below w.heap.size w w' := by
  have R := Lib.hid hr
  have H0 := Lib.hid h0
  have H1 := Lib.hid h1
  have H2 := Lib.hid h2
  have E0 := Lib.hid h0.hlen
  have E1 := Lib.hid h1.hlen
  have E2 := Lib.hid h2.hlen
  have SZ := Lib.hid spis_size
  have HGR := Lib.hid (spigrow (n0 + n1 + n2))
  clear hr h0 h1 h2
  obtain ⟨k0, k1, k2⟩ := spik3 R.out
  have m0 : (n0 : Int) ≤ 1000 := by omega
  have m1 : (n1 : Int) ≤ 1000 := by omega
  have m2 : (n2 : Int) ≤ 1000 := by omega
  have m3 : (n0 : Int) + (n1 : Int) + (n2 : Int) ≤ 1000 := by omega
  have p0 : (0 : Int) ≤ (n0 : Int) := by omega
  have p1 : (0 : Int) ≤ (n1 : Int) := by omega
  have p2 : (0 : Int) ≤ (n2 : Int) := by omega
  have q1 : IntKind.i64.wrap ((n0 : Int) + (n1 : Int)) = (n0 : Int) + (n1 : Int) := by rw [IntKind.wrap_i64]; omega
  have q2 : IntKind.i64.wrap ((n0 : Int) + (n1 : Int) + (n2 : Int)) = (n0 : Int) + (n1 : Int) + (n2 : Int) := by rw [IntKind.wrap_i64]; omega
  have r1 : ¬ (n0 : Int) < 0 := by omega
  have r2 : ¬ (n0 : Int) + (n1 : Int) < 0 := by omega
  have r3 : ¬ (n0 : Int) + (n1 : Int) + (n2 : Int) < 0 := by omega
  go_enter Try.func130, Try.ntmps130
  go_wp2_with fail
  go_loop [3, 11] (fun s i => ∃ (k : Nat) (z : Int), i = .int .i64 (k : Int) ∧ s = .int .i64 z ∧ ((k = 0 ∧ z = 0) ∨ (k = 1 ∧ z = (n0 : Int)) ∨ (k = 2 ∧ z = (n0 : Int) + (n1 : Int)) ∨ (k = 3 ∧ z = (n0 : Int) + (n1 : Int) + (n2 : Int)))) (fun _ i => 3 - (intOf i).toNat)
  case atStart => exact ⟨0, 0, rfl, rfl, .inl ⟨rfl, rfl⟩⟩
  case round =>
    obtain ⟨k, z, rfl, rfl, hk⟩ := hrel
    rcases hk with ⟨rfl, rfl⟩ | ⟨rfl, rfl⟩ | ⟨rfl, rfl⟩ | ⟨rfl, rfl⟩
    · go_wp2_with fail
      go_round
      case rel => exact ⟨1, (n0 : Int), rfl, vint (by first | rfl | omega | simp), .inr (.inl ⟨rfl, rfl⟩)⟩
      case measure => simp [intOf]
    · go_wp2_with fail
      go_round
      case rel => exact ⟨2, (n0 : Int) + (n1 : Int), rfl, vint (by first | rfl | omega | simp), .inr (.inr (.inl ⟨rfl, rfl⟩))⟩
      case measure => simp [intOf]
    · go_wp2_with fail
      go_round
      case rel => exact ⟨3, (n0 : Int) + (n1 : Int) + (n2 : Int), rfl, vint (by first | rfl | omega | simp), .inr (.inr (.inr ⟨rfl, rfl⟩))⟩
      case measure => simp [intOf]
    · clear k0 k1 k2 q1 q2 r1 r2 r3
      have HGR := Lib.hid (show ∀ w, Calls Try.prog 154 #[.slice none 0 0, .int .i64 ((n0 : Int) + (n1 : Int) + (n2 : Int))] w fun x w' => ∃ v, x = .returned v ∧ LsO spE w' w.heap.size v [] ∧ Below w.heap.size w w' from fun w => by
        have := HGR.out w (by omega)
        rwa [show ((n0 + n1 + n2 : Nat) : Int) = (n0 : Int) + (n1 : Int) + (n2 : Int) by omega] at this)
      go_wp2_with (first
        | (go_at_call 154; (with_reducible refine (HGR.out _).mono ?_); rintro x w1 ⟨v1, rfl, hl, hb⟩; have O1 := Lib.hid hl; have B1 := Lib.hid hb; clear hl hb))
      go_loopw [6, 27] (fun v i wr => ∃ (k : Nat) (M : List Sp), i = .int .i64 (k : Int) ∧ Hid (LsO spE wr w.heap.size v M) ∧ Hid (Below w.heap.size w wr) ∧ ((k = 0 ∧ M = []) ∨ (k = 1 ∧ L0 = M) ∨ (k = 2 ∧ M = L0 ++ L1) ∨ (k = 3 ∧ M = L0 ++ L1 ++ L2))) (fun _ i _ => 3 - (intOf i).toNat)
      case atStart => exact ⟨0, [], rfl, O1, B1, .inl ⟨rfl, rfl⟩⟩
      case round =>
        obtain ⟨k, M, rfl, O, B, hk⟩ := hrel
        obtain ⟨k0, k1, k2⟩ := spik3 (R.out.below B.out R.out.lt)
        rcases hk with ⟨rfl, rfl⟩ | ⟨rfl, rfl⟩ | ⟨rfl, rfl⟩ | ⟨rfl, rfl⟩
        · go_wp2_with (first
            | (at_builtin; (with_reducible refine append_ls spOk (o := ⟨some 33, _, _, _, _, _⟩) rfl (.tmp 31) (.tmp 32) rfl w.heap.size u6 [] ?_ O.out a0 n0 c0 L0 ?_ (H0.out.mono spOk B.out) ?_ B.out.size ?_); (focus (first | (go_simp; done) | (go_simp; rfl))); (focus (first | (go_simp; done) | (go_simp; rfl))); (focus (simp; omega)); intro v2 w2 hN hb _ _; have N2 := Lib.hid hN; have B2 := Lib.hid (B.out.trans hb); clear hN hb))
          go_roundw
          case rel => exact ⟨1, L0, rfl, Lib.hid (by have := N2.out; rwa [List.nil_append] at this), B2, .inr (.inl ⟨rfl, rfl⟩)⟩
          case measure => simp [intOf]
        · go_wp2_with (first
            | (at_builtin; (with_reducible refine append_ls spOk (o := ⟨some 33, _, _, _, _, _⟩) rfl (.tmp 31) (.tmp 32) rfl w.heap.size u6 L0 ?_ O.out a1 n1 c1 L1 ?_ (H1.out.mono spOk B.out) ?_ B.out.size ?_); (focus (first | (go_simp; done) | (go_simp; rfl))); (focus (first | (go_simp; done) | (go_simp; rfl))); (focus (rw [E0.out]; omega)); intro v2 w2 hN hb _ _; have N2 := Lib.hid hN; have B2 := Lib.hid (B.out.trans hb); clear hN hb))
          go_roundw
          case rel => exact ⟨2, L0 ++ L1, rfl, N2, B2, .inr (.inr (.inl ⟨rfl, rfl⟩))⟩
          case measure => simp [intOf]
        · go_wp2_with (first
            | (at_builtin; (with_reducible refine append_ls spOk (o := ⟨some 33, _, _, _, _, _⟩) rfl (.tmp 31) (.tmp 32) rfl w.heap.size u6 (L0 ++ L1) ?_ O.out a2 n2 c2 L2 ?_ (H2.out.mono spOk B.out) ?_ B.out.size ?_); (focus (first | (go_simp; done) | (go_simp; rfl))); (focus (first | (go_simp; done) | (go_simp; rfl))); (focus (rw [List.length_append, E0.out, E1.out]; omega)); intro v2 w2 hN hb _ _; have N2 := Lib.hid hN; have B2 := Lib.hid (B.out.trans hb); clear hN hb))
          go_roundw
          case rel => exact ⟨3, L0 ++ L1 ++ L2, rfl, N2, B2, .inr (.inr (.inr ⟨rfl, rfl⟩))⟩
          case measure => simp [intOf]
        · go_wp2_with fail
          go_ret
          exact ⟨_, rfl, O.out, B.out⟩
set_option maxRecDepth 100000 in
set_option maxHeartbeats 8000000 in
theorem spidx_ab (lv : ByteArray) (g : Nat) (a : Option Addr) (n c : Nat) (L : List Sp) (w : World) (h : Ls spE w a n c L) (hg : Row w g 9 [.string lv]) :
    Calls Try.prog 71 #[.slice a n c, .func (.func 131) #[] #[.pointer (some ⟨g, 0, none⟩)]] w fun x w' => x = .returned (.int .i64 (idxI (pabove lv) L)) ∧ Below w.heap.size w w' := by
  have H := Lib.hid h
  have HL := Lib.hid h.hlen
  have HG := Lib.hid hg
  have hm := h.hmax
  have hle := h.hle
  have SZ := Lib.hid sp_size
  obtain ⟨V, hV⟩ : ∃ V, idxI (pabove lv) L = V := ⟨_, rfl⟩
  rw [hV]
  have HV := Lib.hid hV
  clear h hV hg
  go_enter Try.func71, Try.ntmps71
  go_wp2_with fail
  go_loopw [8] (fun i wr => ∃ k : Nat, i = .int .i64 (k : Int) ∧ k ≤ n ∧ Hid (∀ i, i < k → ∀ x, L[i]? = some x → (pabove lv) x = false) ∧ Hid (Below w.heap.size w wr)) (fun i _ => n - (intOf i).toNat)
  case atStart => exact ⟨0, rfl, Nat.zero_le _, Lib.hid (fun i h => absurd h (by omega)), Lib.hid (Below.refl _ _)⟩
  case round =>
    obtain ⟨k, rfl, hk, HP, B⟩ := hrel
    by_cases hlt : k < n
    · obtain ⟨b, off, x, rfl, hx, hcell, hft⟩ := H.out.at spOk B.out k hlt
      have XC := Lib.hid hcell
      have HX := Lib.hid hx
      have HFT := Lib.hid hft
      have HR := Lib.hid (HG.out.below B.out HG.out.lt)
      obtain ⟨q, hq⟩ : ∃ q, (pabove lv) x = q := ⟨_, rfl⟩
      have HQ := Lib.hid hq
      have HC := Lib.hid (spabove1 lv x g wr HR.out)
      rw [hq] at HC
      have g1 : (0 : Int) ≤ (k : Int) := by omega
      have g2 : (k : Int) < (n : Int) := by omega
      clear hx hcell hq hft
      obtain ⟨xn, xr, xw⟩ := x
      cases q
      · go_wp2_with (first
          | ((with_reducible refine load_cells (o := ⟨some 15, _, _, _, _, _⟩) rfl _ _ rfl b (off + k * 3) ?_ [.string xn, .int .i64 xr, .int .i64 xw] _ XC.out Try.underlying24 rfl ?_ ?_); (focus go_simp); (focus (exact SZ.out)))
          | (go_at_call 131; refine HC.out.mono ?_; rintro x w5 ⟨rfl, hb5⟩; have B5 := Lib.hid (B.out.trans (hb5.mono B.out.size)); clear hb5))
        go_roundw
        case rel =>
          refine ⟨k + 1, vint (by omega), by omega, Lib.hid ?_, B5⟩
          intro i hi x hx
          by_cases h : i < k
          · exact HP.out i h x hx
          · obtain rfl : i = k := by omega
            rw [HX.out] at hx; injection hx with hx; subst hx; exact HQ.out
        case measure => simp [intOf]; omega
      · have HZ := Lib.hid (show V = (k : Int) by rw [← HV.out]; exact idxI_at (pabove lv) L k _ HX.out HQ.out HP.out)
        go_wp2_with (first
          | ((with_reducible refine load_cells (o := ⟨some 15, _, _, _, _, _⟩) rfl _ _ rfl b (off + k * 3) ?_ [.string xn, .int .i64 xr, .int .i64 xw] _ XC.out Try.underlying24 rfl ?_ ?_); (focus go_simp); (focus (exact SZ.out)))
          | (go_at_call 131; refine HC.out.mono ?_; rintro x w5 ⟨rfl, hb5⟩; have B5 := Lib.hid (B.out.trans (hb5.mono B.out.size)); clear hb5))
        go_ret
        exact ⟨one (vint (by rw [HZ.out])), B5.out⟩
    · obtain rfl : n = k := by omega
      have HZ := Lib.hid (show V = -1 by rw [← HV.out]; exact idxI_no (pabove lv) L (fun i x hx => HP.out i (by rw [← HL.out]; exact (List.getElem?_eq_some_iff.1 hx).1) x hx))
      go_wp2_with fail
      go_ret
      exact ⟨one (vint (by rw [HZ.out])), B.out⟩
theorem spi_fill (y : Sp) : Instr.fill (fun i => some (i * spE.k, spE.k)) ((Array.range (1 * spE.k)).map (spE.z.cells[· % spE.z.cells.size]!)) [(0, .agg (spE.cells y).toArray)] = some (spE.cells y).toArray := by
  kernel_rfl
set_option maxRecDepth 100000 in
set_option maxHeartbeats 16000000 in
theorem spiinsert (lv : ByteArray) (g : Nat) (a : Option Addr) (n c : Nat) (L : List Sp) (s : Sp) (w : World) (h : Ls spE w a n c L) (hs : spE.fit w s) (hg : Row w g 9 [.string lv]) (hn : n ≤ 900) :
    Calls Try.prog 73 #[.slice a n c, .agg (spE.cells s).toArray, .func (.func 131) #[] #[.pointer (some ⟨g, 0, none⟩)]] w fun x w' => ∃ v', x = .returned v' ∧ LsO spE w' w.heap.size v' (insP (pabove lv) s L) ∧ Below w.heap.size w w' := by
  have H := Lib.hid h
  have HS := Lib.hid hs
  have HG := Lib.hid hg
  have HL := Lib.hid h.hlen
  have hm := h.hmax
  have hle := h.hle
  have SZ := Lib.hid sp_size
  have HI := Lib.hid (fun w' (hb : Below w.heap.size w w') => spidx_ab lv g a n c L w' (h.mono spOk hb) (hg.below hb hg.lt))
  obtain ⟨q, hq, hz, hins⟩ : ∃ q : Nat, q ≤ n ∧ ((idxI (pabove lv) L = -1 ∧ (n : Int) = (q : Int)) ∨ idxI (pabove lv) L = (q : Int)) ∧ insP (pabove lv) s L = L.take q ++ [s] ++ L.drop q := by
    rcases idxI_or (pabove lv) L with ⟨hz, hall⟩ | ⟨k, y, hz, hk, hy, hpk, hbef⟩
    · refine ⟨n, Nat.le_refl _, .inl ⟨hz, rfl⟩, ?_⟩
      rw [insP_no _ s L hall, List.take_of_length_le (by rw [h.hlen]; exact Nat.le_refl _), List.drop_eq_nil_of_le (by rw [h.hlen]; exact Nat.le_refl _), List.append_nil]
    · exact ⟨k, by rw [← h.hlen]; omega, .inr hz, insP_at _ s L k y hy hpk hbef⟩
  rw [hins]
  obtain ⟨M, hM⟩ : ∃ M, L.take q ++ [s] ++ L.drop q = M := ⟨_, rfl⟩
  rw [hM]
  have HM := Lib.hid hM
  have gn : (0 : Int) ≤ (n : Int) := by omega
  have gq0 : (0 : Int) ≤ (q : Int) := by omega
  have gq : (q : Int) ≤ (n : Int) := by omega
  have gc : (q : Int) ≤ (c : Int) := by omega
  have gq1 : ¬ (q : Int) < 0 := by omega
  obtain ⟨z, hzz⟩ : ∃ z, idxI (pabove lv) L = z := ⟨_, rfl⟩
  rw [hzz] at HI hz
  clear h hs hg hins hzz hM
  rcases hz with ⟨rfl, hqn⟩ | rfl
  all_goals
    first
      | (have HQE := Lib.hid hqn; clear hqn)
      | skip
    go_enter Try.func73, Try.ntmps73
    go_wp2_with (first
      | ((with_reducible refine box_row (o := ⟨some 4, _, _, _, _, _⟩) rfl _ _ rfl (spE.cells s) rfl ?_); intro w1 hr hb hz; have R1 := Lib.hid hr; have B1 := Lib.hid hb; clear hr hb hz)
      | (go_at_call 71; (with_reducible refine (HI.out w1 B1.out).mono ?_); rintro x w2 ⟨rfl, hb⟩; have R2 := Lib.hid (R1.out.below hb R1.out.lt); have B2 := Lib.hid (B1.out.trans (hb.mono B1.out.size)); clear hb))
    try rw [HQE.out]
    refine region_h (fun v => Below w2.heap.size w2 v) (by kernel_rfl) (by kernel_rfl) (Below.refl _ _).drew ?_
    obtain ⟨wd, hwd⟩ : ∃ wd, w2.drew = wd := ⟨_, rfl⟩
    have D0 : Hid (Below w2.heap.size w2 wd) := Lib.hid (by rw [← hwd]; exact (Below.refl _ _).drew)
    rw [hwd]
    clear hwd
    (refine h_read 0 rfl (by kernel_rfl) (by kernel_rfl) (h_free rfl) ?_ ?_ ?_; rotate_left; (focus (intro v hv; go_simp; rfl)); go_simp)
    (refine h_read 1 rfl (by kernel_rfl) (by kernel_rfl) (h_free rfl) ?_ ?_ ?_; rotate_left; (focus (intro v hv; go_simp; rfl)); go_simp)
    (refine h_read 2 rfl (by kernel_rfl) (by kernel_rfl) (h_free rfl) (.slice a q c) ?_ ?_; (focus (intro v hv; go_simp; first | done | rfl | (intro hh; exfalso; omega) | omega)); go_simp)
    (refine h_read 3 rfl (by kernel_rfl) (by kernel_rfl) (h_free rfl) ?_ ?_ ?_; rotate_left; (focus (intro v hv; refine run_cells 24 (.tmp 4) ?_ w.heap.size 0 ?_ (spE.cells s) _ (fun j' u' hj => by rw [hv.cell (p := ⟨w.heap.size, 0 + j', none⟩) R2.out.lt, Nat.zero_add, R2.out.cellV]; exact hj) Try.underlying24 rfl sp_size; (focus rfl); go_simp)); go_simp)
    (refine h_read 5 rfl (by kernel_rfl) (by kernel_rfl) (h_free rfl) ?_ ?_ ?_; rotate_left; (focus (intro v hv; go_simp; rfl)); go_simp)
    (refine h_read 6 rfl (by kernel_rfl) (by kernel_rfl) (h_free rfl) ?_ ?_ ?_; rotate_left; (focus (intro v hv; go_simp; rfl)); go_simp)
    (refine h_read 7 rfl (by kernel_rfl) (by kernel_rfl) (h_free rfl) (.slice (if c = q then a else a.map (fun x => x.add (q * spE.k))) (n - q) (c - q)) ?_ ?_; (focus (intro v hv; go_simp; first | done | rfl | (intro hh; exfalso; omega) | omega)); go_simp)
    (refine h_list 4 rfl (by kernel_rfl) ?_; intro K hK)
    refine build_ls spOk spi_fill (o := ⟨some 19, _, _, _, _, _⟩) rfl _ rfl s ?_ HS.out (by decide) ?_
    · first | (go_simp; done) | (go_simp; rfl)
    intro w3 hl hb hz
    have X3 := Lib.hid hl
    have D3 := Lib.hid (D0.out.trans (hb.mono D0.out.size))
    clear hl hb hz
    refine hK _ _ D3.out ?_
    go_simp
    (refine h_list 8 rfl (by kernel_rfl) ?_; intro K hK)
    refine spibs3 (o := ⟨some 23, _, _, _, _, _⟩) rfl _ _ _ rfl a (some ⟨wd.heap.size, 0, none⟩) (if c = q then a else a.map (fun x => x.add (q * spE.k))) q c 1 1 (n - q) (c - q) ?_ ?_ ?_ ?_
    · first | (go_simp; done) | (go_simp; rfl)
    · first | (go_simp; done) | (go_simp; rfl)
    · first | (go_simp; done) | (go_simp; rfl)
    intro w4 hr hb hz
    have R4 := Lib.hid hr
    have X4 := Lib.hid (X3.out.mono spOk hb)
    have D4 := Lib.hid (D3.out.trans (hb.mono D3.out.size))
    have BW := Lib.hid (B2.out.trans (D4.out.mono B2.out.size))
    have LW := Lib.hid (H.out.mono spOk BW.out)
    clear hr hb hz
    refine hK _ _ D4.out ?_
    go_simp
    (refine h_call 9 rfl (by kernel_rfl) (h_free rfl) 130 ?_ ?_ ?_; rotate_left; (focus (go_simp; rfl)))
    refine (spiconcat w3.heap.size a (some ⟨wd.heap.size, 0, none⟩) (if c = q then a else a.map (fun x => x.add (q * spE.k))) q c 1 1 (n - q) (c - q) (L.take q) [s] (L.drop q) w4 R4.out (LW.out.first q hq) X4.out (LW.out.rest q hq) (by omega)).mono ?_
    rintro x w5 ⟨v5, rfl, hl, hb⟩
    have D5 := Lib.hid (D4.out.trans (hb.mono D4.out.size))
    have N5 := Lib.hid (by (have hq5 := hl.base D4.out.size); rw [HM.out] at hq5; exact hq5)
    clear hl hb
    refine ⟨_, rfl, D5.out, ?_⟩
    go_simp
    (refine h_read 10 rfl (by kernel_rfl) (by kernel_rfl) (h_free rfl) ?_ ?_ ?_; rotate_left; (focus (intro v hv; go_simp; rfl)); go_simp)
    refine h_done (by kernel_rfl) ?_
    go_wp2_with fail
    all_goals
      go_ret
      exact ⟨_, rfl, N5.out.base B2.out.size, B2.out.trans (D5.out.mono B2.out.size)⟩
set_option maxRecDepth 100000 in
set_option maxHeartbeats 32000000 in
theorem pspSet : SpSetP 17 := by
  intro a n c L s w h hs hn30
  have H := Lib.hid h
  have HL := Lib.hid h.hlen
  have HO := Lib.hid (fun w => spfits s w hs)
  have SZ := Lib.hid sp_size
  have HFIT := Lib.hid (show ∀ x ∈ L, x.fit from h.hfit)
  have HSF := Lib.hid hs
  have HN30 := Lib.hid (show n ≤ 1000 by omega)
  obtain ⟨ok, hok⟩ : ∃ ok, s.ok = ok := ⟨_, rfl⟩
  rw [hok] at HO
  obtain ⟨sn, sr, sw⟩ := s
  have HOK := Lib.hid hok
  clear h hs hok
  cases ok
  · have HF := Lib.hid (show setV L ⟨sn, sr, sw⟩ = (L, 1) by unfold setV; rw [HOK.out, if_pos rfl])
    go_enter Try.func17, Try.ntmps17
    go_wp2_with (first
      | (with_reducible refine box_row (o := ⟨some 3, _, _, _, _, _⟩) rfl _ _ rfl [.string sn, .int .i64 sr, .int .i64 sw] rfl ?_; intro w1 hr hb hz; have R1 := Lib.hid hr; have B1 := Lib.hid hb; clear hr hb hz)
      | (go_at_call 16; (with_reducible refine (spclone2 a n c L w1 (H.out.mono spOk B1.out) (by omega)).mono ?_); rintro x w2 ⟨a2, c2, rfl, hl, hb⟩; have N2 := Lib.hid (hl.base B1.out.size); have R2 := Lib.hid (R1.out.below hb R1.out.lt); have B2 := Lib.hid (B1.out.trans (hb.mono B1.out.size)); have hc2 := (lso_ls hl HFIT.out).hle; have hm2 := (lso_ls hl HFIT.out).hmax; have NG := Lib.hid (show ∀ g o, a2 = some ⟨g, o, none⟩ → w1.heap.size ≤ g from fun g o e => lso_ge hl e); clear hl hb)
      | ((with_reducible refine load_row (o := ⟨some 10, _, _, _, _, _⟩) rfl _ _ rfl w.heap.size ?_ _ [.string sn, .int .i64 sr, .int .i64 sw] _ R2.out Try.underlying24 rfl ?_ ?_); (focus go_simp); (focus (exact SZ.out)))
      | (go_at_call 70; (with_reducible refine (HO.out w2).mono ?_); rintro x w3 ⟨rfl, hb⟩; have N3 := Lib.hid (N2.out.kept hb); have hr3 := R2.out.below hb R2.out.lt; have R3 := Lib.hid hr3; obtain ⟨e0, e1, e2⟩ := hr3.sp3c; have B3 := Lib.hid (B2.out.trans (hb.mono B2.out.size)); clear hb hr3))
    go_ret2
    rw [HF.out]
    exact ⟨_, _, _, rfl, lso_ls N3.out HFIT.out, B3.out⟩
  · rcases first_or (pnamed sn) L with hno | ⟨k, y, hy, hp, hno⟩
    · have hsub : subV L ⟨sn, sr, sw⟩ = none := subV_no L (fun j _ y hy => hno j y hy)
      have HNO := Lib.hid hno
      clear hno
      by_cases h6 : 6 ≤ n
      · have HF := Lib.hid (show setV L ⟨sn, sr, sw⟩ = (L, 7) by unfold setV; rw [HOK.out, if_neg (by decide), hsub]; dsimp only; rw [if_pos (by rw [HL.out]; exact h6)])
        have g6 : (6 : Int) ≤ (n : Int) := by omega
        clear hsub
        go_enter Try.func17, Try.ntmps17
        go_wp2_with (first
          | (with_reducible refine box_row (o := ⟨some 3, _, _, _, _, _⟩) rfl _ _ rfl [.string sn, .int .i64 sr, .int .i64 sw] rfl ?_; intro w1 hr hb hz; have R1 := Lib.hid hr; have B1 := Lib.hid hb; clear hr hb hz)
          | (go_at_call 16; (with_reducible refine (spclone2 a n c L w1 (H.out.mono spOk B1.out) (by omega)).mono ?_); rintro x w2 ⟨a2, c2, rfl, hl, hb⟩; have N2 := Lib.hid (hl.base B1.out.size); have R2 := Lib.hid (R1.out.below hb R1.out.lt); have B2 := Lib.hid (B1.out.trans (hb.mono B1.out.size)); have hc2 := (lso_ls hl HFIT.out).hle; have hm2 := (lso_ls hl HFIT.out).hmax; have NG := Lib.hid (show ∀ g o, a2 = some ⟨g, o, none⟩ → w1.heap.size ≤ g from fun g o e => lso_ge hl e); clear hl hb)
          | ((with_reducible refine load_row (o := ⟨some 10, _, _, _, _, _⟩) rfl _ _ rfl w.heap.size ?_ _ [.string sn, .int .i64 sr, .int .i64 sw] _ R2.out Try.underlying24 rfl ?_ ?_); (focus go_simp); (focus (exact SZ.out)))
          | (go_at_call 70; (with_reducible refine (HO.out w2).mono ?_); rintro x w3 ⟨rfl, hb⟩; have N3 := Lib.hid (N2.out.kept hb); have hr3 := R2.out.below hb R2.out.lt; have R3 := Lib.hid hr3; obtain ⟨e0, e1, e2⟩ := hr3.sp3c; have B3 := Lib.hid (B2.out.trans (hb.mono B2.out.size)); clear hb hr3)
          | (go_at_call 72; (with_reducible refine (spnamed sn w3).mono ?_); rintro x w4 ⟨rfl, hr, hb⟩; have G4 := Lib.hid hr; have N4 := Lib.hid (N3.out.kept hb); have R4 := Lib.hid (R3.out.below hb R3.out.lt); have B4 := Lib.hid (B3.out.trans (hb.mono B3.out.size)); clear hr hb e0 e1 e2)
          | (go_at_call 71; (with_reducible refine (spidxnamed_no sn w3.heap.size a2 n c2 L w4 (lso_ls N4.out HFIT.out) G4.out (fun i _ => HNO.out i)).mono ?_); rintro x w5 ⟨rfl, hb⟩; have N5 := Lib.hid (N4.out.kept hb); have hr5 := R4.out.below hb R4.out.lt; have R5 := Lib.hid hr5; obtain ⟨f0, f1, f2⟩ := hr5.sp3c; have B5 := Lib.hid (B4.out.trans (hb.mono B4.out.size)); clear hb hr5))
        go_ret2
        rw [HF.out]
        exact ⟨_, _, _, rfl, lso_ls N5.out HFIT.out, B5.out⟩
      · have hset : setV L ⟨sn, sr, sw⟩ = (L.take (aheadV L sn) ++ [⟨sn, sr, sw⟩] ++ L.drop (aheadV L sn), 0) := by unfold setV; rw [HOK.out, if_neg (by decide), hsub]; dsimp only; rw [if_neg (by rw [HL.out]; exact h6)]
        have g6 : ¬ (6 : Int) ≤ (n : Int) := by omega
        have hins : L.take (aheadV L sn) ++ [(⟨sn, sr, sw⟩ : Sp)] ++ L.drop (aheadV L sn) = insP (pabove sn) ⟨sn, sr, sw⟩ L := by
          rcases idxI_or (pabove sn) L with ⟨-, hall⟩ | ⟨k, y, -, hk, hy, hp, hbef⟩
          · rw [ahead_no HNO.out (fun i x hx => hall x (List.mem_of_getElem? hx)), insP_no _ _ _ hall, List.take_length, List.drop_length, List.append_nil]
          · rw [ahead_some HNO.out hy hp hbef, insP_at _ _ L k y hy hp hbef]
        obtain ⟨I, hI⟩ : ∃ I, insP (pabove sn) (⟨sn, sr, sw⟩ : Sp) L = I := ⟨_, rfl⟩
        rw [hins, hI] at hset
        have HF := Lib.hid hset
        have HI := Lib.hid hI
        have HFN := Lib.hid (show ∀ x ∈ I, x.fit from fun x hx => by
          rw [← hI, mem_insP] at hx
          rcases hx with rfl | hx
          · exact HSF.out
          · exact HFIT.out x hx)
        clear hsub hset hins hI
        go_enter Try.func17, Try.ntmps17
        go_wp2_with (first
          | (with_reducible refine box_row (o := ⟨some 3, _, _, _, _, _⟩) rfl _ _ rfl [.string sn, .int .i64 sr, .int .i64 sw] rfl ?_; intro w1 hr hb hz; have R1 := Lib.hid hr; have B1 := Lib.hid hb; clear hr hb hz)
          | (go_at_call 16; (with_reducible refine (spclone2 a n c L w1 (H.out.mono spOk B1.out) (by omega)).mono ?_); rintro x w2 ⟨a2, c2, rfl, hl, hb⟩; have N2 := Lib.hid (hl.base B1.out.size); have R2 := Lib.hid (R1.out.below hb R1.out.lt); have B2 := Lib.hid (B1.out.trans (hb.mono B1.out.size)); have hc2 := (lso_ls hl HFIT.out).hle; have hm2 := (lso_ls hl HFIT.out).hmax; have NG := Lib.hid (show ∀ g o, a2 = some ⟨g, o, none⟩ → w1.heap.size ≤ g from fun g o e => lso_ge hl e); clear hl hb)
          | ((with_reducible refine load_row (o := ⟨some 10, _, _, _, _, _⟩) rfl _ _ rfl w.heap.size ?_ _ [.string sn, .int .i64 sr, .int .i64 sw] _ R2.out Try.underlying24 rfl ?_ ?_); (focus go_simp); (focus (exact SZ.out)))
          | (go_at_call 70; (with_reducible refine (HO.out w2).mono ?_); rintro x w3 ⟨rfl, hb⟩; have N3 := Lib.hid (N2.out.kept hb); have hr3 := R2.out.below hb R2.out.lt; have R3 := Lib.hid hr3; obtain ⟨e0, e1, e2⟩ := hr3.sp3c; have B3 := Lib.hid (B2.out.trans (hb.mono B2.out.size)); clear hb hr3)
          | (go_at_call 72; (with_reducible refine (spnamed sn w3).mono ?_); rintro x w4 ⟨rfl, hr, hb⟩; have G4 := Lib.hid hr; have N4 := Lib.hid (N3.out.kept hb); have R4 := Lib.hid (R3.out.below hb R3.out.lt); have B4 := Lib.hid (B3.out.trans (hb.mono B3.out.size)); clear hr hb e0 e1 e2)
          | (go_at_call 71; (with_reducible refine (spidxnamed_no sn w3.heap.size a2 n c2 L w4 (lso_ls N4.out HFIT.out) G4.out (fun i _ => HNO.out i)).mono ?_); rintro x w5 ⟨rfl, hb⟩; have N5 := Lib.hid (N4.out.kept hb); have hr5 := R4.out.below hb R4.out.lt; have R5 := Lib.hid hr5; obtain ⟨f0, f1, f2⟩ := hr5.sp3c; have B5 := Lib.hid (B4.out.trans (hb.mono B4.out.size)); clear hb hr5))
        refine region_h (fun v => Below w5.heap.size w5 v) (by kernel_rfl) (by kernel_rfl) (Below.refl _ _).drew ?_
        obtain ⟨wd, hwd⟩ : ∃ wd, w5.drew = wd := ⟨_, rfl⟩
        have D0 : Hid (Below w5.heap.size w5 wd) := Lib.hid (by rw [← hwd]; exact (Below.refl _ _).drew)
        rw [hwd]
        clear hwd f0 f1 f2
        (refine h_read 0 rfl (by kernel_rfl) (by kernel_rfl) (h_free rfl) ?_ ?_ ?_; rotate_left; (focus (intro v hv; go_simp; rfl)); go_simp)
        (refine h_read 1 rfl (by kernel_rfl) (by kernel_rfl) (h_free rfl) ?_ ?_ ?_; rotate_left; (focus (intro v hv; refine run_cells 24 (.tmp 3) ?_ w.heap.size 0 ?_ [.string sn, .int .i64 sr, .int .i64 sw] _ (fun j' u' hj => by rw [hv.cell (p := ⟨w.heap.size, 0 + j', none⟩) R5.out.lt, Nat.zero_add, R5.out.cellV]; exact hj) Try.underlying24 rfl sp_size; (focus rfl); go_simp)); go_simp)
        (refine h_read 2 rfl (by kernel_rfl) (by kernel_rfl) (h_free rfl) ?_ ?_ ?_; rotate_left; (focus (intro v hv; go_simp; rfl)); go_simp)
        (refine h_read 3 rfl (by kernel_rfl) (by kernel_rfl) (h_free rfl) ?_ ?_ ?_; rotate_left; (focus (intro v hv; have hr9 := R5.out.below hv R5.out.lt; obtain ⟨g0, g1, g2⟩ := hr9.sp3c; go_simp; rfl)); go_simp)
        (refine h_call 4 rfl (by kernel_rfl) (h_free rfl) 74 ?_ ?_ ?_; rotate_left; (focus (go_simp; rfl)))
        refine (spabove sn wd).mono ?_
        rintro x w6 ⟨rfl, hr, hb⟩
        have K6 := Lib.hid hr
        have D6 := Lib.hid (D0.out.trans (hb.mono D0.out.size))
        clear hr hb
        refine ⟨_, rfl, D6.out, ?_⟩
        go_simp
        (refine h_call 5 rfl (by kernel_rfl) (h_free rfl) 73 ?_ ?_ ?_; rotate_left; (focus (go_simp; rfl)))
        refine (spiinsert sn wd.heap.size a2 n c2 L ⟨sn, sr, sw⟩ w6 (lso_ls (N5.out.kept D6.out) HFIT.out) HSF.out K6.out (by omega)).mono ?_
        rintro x w7 ⟨v7, rfl, hl, hb⟩
        rw [HI.out] at hl
        obtain ⟨a7, c7, rfl, hls, -⟩ := hl.ls spOk HFN.out
        have L7 := Lib.hid hls
        have D7 := Lib.hid (D6.out.trans (hb.mono D6.out.size))
        clear hl hb hls
        refine ⟨_, rfl, D7.out, ?_⟩
        go_simp
        (refine h_read 6 rfl (by kernel_rfl) (by kernel_rfl) (h_free rfl) ?_ ?_ ?_; rotate_left; (focus (intro v hv; go_simp; rfl)); go_simp)
        (refine h_read 7 rfl (by kernel_rfl) (by kernel_rfl) (h_free rfl) ?_ ?_ ?_; rotate_left; (focus (intro v hv; go_simp; rfl)); go_simp)
        refine h_done (by kernel_rfl) ?_
        go_wp2_with fail
        go_ret2
        rw [HF.out]
        exact ⟨a7, _, c7, rfl, L7.out, B5.out.trans (D7.out.mono B5.out.size)⟩
    · have hsub := subV_at (s := ⟨sn, sr, sw⟩) L k y hno hy hp
      have HF := Lib.hid (show setV L ⟨sn, sr, sw⟩ = (L.set k ⟨sn, sr, sw⟩, 0) by unfold setV; rw [HOK.out, if_neg (by decide), hsub])
      have HNO := Lib.hid hno
      have HY := Lib.hid hy
      have HP := Lib.hid hp
      have hkn : k < n := by rw [← HL.out]; exact (List.getElem?_eq_some_iff.1 hy).1
      have g7 : (0 : Int) ≤ (k : Int) := by omega
      have g8 : (k : Int) < (n : Int) := by omega
      clear hno hy hp hsub
      go_enter Try.func17, Try.ntmps17
      go_wp2_with (first
        | (with_reducible refine box_row (o := ⟨some 3, _, _, _, _, _⟩) rfl _ _ rfl [.string sn, .int .i64 sr, .int .i64 sw] rfl ?_; intro w1 hr hb hz; have R1 := Lib.hid hr; have B1 := Lib.hid hb; clear hr hb hz)
        | (go_at_call 16; (with_reducible refine (spclone2 a n c L w1 (H.out.mono spOk B1.out) (by omega)).mono ?_); rintro x w2 ⟨a2, c2, rfl, hl, hb⟩; have N2 := Lib.hid (hl.base B1.out.size); have R2 := Lib.hid (R1.out.below hb R1.out.lt); have B2 := Lib.hid (B1.out.trans (hb.mono B1.out.size)); have hc2 := (lso_ls hl HFIT.out).hle; have hm2 := (lso_ls hl HFIT.out).hmax; have NG := Lib.hid (show ∀ g o, a2 = some ⟨g, o, none⟩ → w1.heap.size ≤ g from fun g o e => lso_ge hl e); clear hl hb)
        | ((with_reducible refine load_row (o := ⟨some 10, _, _, _, _, _⟩) rfl _ _ rfl w.heap.size ?_ _ [.string sn, .int .i64 sr, .int .i64 sw] _ R2.out Try.underlying24 rfl ?_ ?_); (focus go_simp); (focus (exact SZ.out)))
        | (go_at_call 70; (with_reducible refine (HO.out w2).mono ?_); rintro x w3 ⟨rfl, hb⟩; have N3 := Lib.hid (N2.out.kept hb); have hr3 := R2.out.below hb R2.out.lt; have R3 := Lib.hid hr3; obtain ⟨e0, e1, e2⟩ := hr3.sp3c; have B3 := Lib.hid (B2.out.trans (hb.mono B2.out.size)); clear hb hr3)
        | (go_at_call 72; (with_reducible refine (spnamed sn w3).mono ?_); rintro x w4 ⟨rfl, hr, hb⟩; have G4 := Lib.hid hr; have N4 := Lib.hid (N3.out.kept hb); have R4 := Lib.hid (R3.out.below hb R3.out.lt); have B4 := Lib.hid (B3.out.trans (hb.mono B3.out.size)); clear hr hb e0 e1 e2)
        | (go_at_call 71; (with_reducible refine (spidxnamed_at sn w3.heap.size a2 n c2 L w4 (lso_ls N4.out HFIT.out) G4.out k y HY.out HP.out HNO.out).mono ?_); rintro x w5 ⟨rfl, hb⟩; have N5 := Lib.hid (N4.out.kept hb); have hr5 := R4.out.below hb R4.out.lt; have R5 := Lib.hid hr5; obtain ⟨f0, f1, f2⟩ := hr5.sp3c; have B5 := Lib.hid (B4.out.trans (hb.mono B4.out.size)); clear hb hr5))
      obtain ⟨b2, off2, x2, rfl, -, -, -⟩ := (lso_ls N5.out HFIT.out).at spOk (Below.refl _ _) k hkn
      obtain rfl : off2 = 0 := by
        rcases N5.out.form with ⟨h1, -⟩ | ⟨g, c9, h1, -⟩
        · cases h1
        · injection h1 with h1; injection h1 with h1; injection h1 with h1 h2
      obtain ⟨cur, hrow, hcf, hnew⟩ := LsO.set spOk N5.out k (by rw [HL.out]; exact hkn) ⟨sn, sr, sw⟩
      have HROW := Lib.hid hrow
      have HCF := Lib.hid hcf
      have HNEW := Lib.hid hnew
      have GG := Lib.hid (lso_ge N5.out rfl)
      have HFN := Lib.hid (show ∀ x ∈ L.set k (⟨sn, sr, sw⟩ : Sp), x.fit from fun x hx => by
        rcases List.mem_or_eq_of_mem_set hx with h1 | h1
        · exact HFIT.out x h1
        · rw [h1]; exact HSF.out)
      clear hrow hcf hnew
      go_wp2_with (first
        | ((with_reducible refine load_row (o := ⟨some 23, _, _, _, _, _⟩) rfl _ _ rfl w.heap.size ?_ _ [.string sn, .int .i64 sr, .int .i64 sw] _ R5.out Try.underlying24 rfl ?_ ?_); (focus go_simp); (focus (exact SZ.out)))
        | ((with_reducible refine store_part (o := ⟨none, _, _, _, _, _⟩) rfl _ (.tmp 24) _ rfl b2 (k * 3) [.string sn, .int .i64 sr, .int .i64 sw] ?_ ?_ 24 cur HROW.out ?_ ?_ ?_ ?_); (focus (first | (go_simp; done) | (go_simp; rfl))); (focus (first | (go_simp; done) | (go_simp; rfl))); (focus (exact SZ.out)); (focus (exact HCF.out)); (focus (exact sp_one ⟨_, _, _⟩)); intro w6 hr hu; have N6 := Lib.hid (HNEW.out w6 hr); have B6 := Lib.hid (B5.out.trans (hu.below GG.out)); clear hr hu))
      go_ret2
      rw [HF.out]
      exact ⟨_, _, _, rfl, lso_ls N6.out HFN.out, B6.out⟩
end Go.Proofs.Ytiopcojkdglapaa.W
