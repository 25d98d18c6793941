/- LAYER 20 (manifest): called, the closure of Add, IndexFunc, ContainsFunc, Find of the program. -/
import Derived.Test.YtdinfpjckmgihaaMfC
set_option linter.unusedSimpArgs false
set_option linter.unusedVariables false
namespace Go.Proofs.Ytdinfpjckmgihaa.W
open Go Go.ChangeShapes Go.WideShapes Go.ChangeAt Go.RowKit
open Go.Proofs.Ytdinfpjckmgihaa.P (enc dec)
open Go.Proofs.Ytdinfpjckmgihaa.S

set_option maxRecDepth 100000 in
set_option maxHeartbeats 4000000 in
theorem pcalled (sp nm : ByteArray) (w : World) : Calls Try.prog 31 #[.string sp, .string nm] w fun x w' => ∃ g1 g2, x = .returned (.func (.func 62) #[] #[.pointer (some ⟨g1, 0, none⟩), .pointer (some ⟨g2, 0, none⟩)]) ∧ Row w' g1 9 [.string sp] ∧ Row w' g2 9 [.string nm] ∧ Below w.heap.size w w' := by
  go_enter Try.func31, Try.ntmps31
  go_wp2_with (first
    | ((with_reducible refine box_cell (o := ⟨some 2, _, _, _, _, _⟩) rfl _ _ rfl (.string sp) rfl rfl ?_); intro w1 hr hb hz; have R1 := Lib.hid hr; have B1 := Lib.hid hb; clear hr hb hz)
    | ((with_reducible refine box_cell (o := ⟨some 3, _, _, _, _, _⟩) rfl _ _ rfl (.string nm) rfl rfl ?_); intro w2 hr hb hz; have R2 := Lib.hid hr; have R12 := Lib.hid (R1.out.below hb R1.out.lt); have B2 := Lib.hid (B1.out.trans (hb.mono B1.out.size)); clear hr hb hz))
  go_ret
  exact ⟨_, _, rfl, R12.out, R2.out, B2.out⟩
set_option maxRecDepth 100000 in
set_option maxHeartbeats 4000000 in
theorem pcalled1 (sp nm : ByteArray) (x : SnX) (g1 g2 : Nat) (w : World) (h1 : Row w g1 9 [.string sp]) (h2 : Row w g2 9 [.string nm]) : Calls Try.prog 62 #[.agg x.cells.toArray, .pointer (some ⟨g1, 0, none⟩), .pointer (some ⟨g2, 0, none⟩)] w fun e w' => e = .returned (.bool (callM sp nm x.s)) ∧ Below w.heap.size w w' := by
  obtain ⟨⟨xs, xn, xb, xt, xk, P⟩, xa, xm, xc⟩ := x
  obtain ⟨b0, e0⟩ : ∃ b, (xs.toList == sp.toList) = b := ⟨_, rfl⟩
  obtain ⟨b1, e1⟩ : ∃ b, (xn.toList == nm.toList) = b := ⟨_, rfl⟩
  have HX := Lib.hid (show callM sp nm ⟨xs, xn, xb, xt, xk, P⟩ = (b0 && b1) by rw [← e0, ← e1]; rfl)
  have H1 := Lib.hid h1
  have H2 := Lib.hid h2
  clear h1 h2
  cases b0
  all_goals
    go_enter Try.func62, Try.ntmps62
    go_wp2_with (first
      | (with_reducible refine box_row (o := ⟨some 3, _, _, _, _, _⟩) rfl _ _ rfl (snC xs xn xb xt xk xa xm xc) rfl ?_; intro w1 hr1 hb1 hz1; obtain ⟨c0, c1, c2, c3, c4, c5⟩ := hr1.h6s; have k0 := (H1.out.below hb1 H1.out.lt).k0; have k1 := (H2.out.below hb1 H2.out.lt).k0; have B1 := Lib.hid hb1; clear hr1 hb1 hz1 c2 c3 c4 c5))
    go_ret
    exact ⟨one (vbool (by rw [HX.out]; first | done | rfl | simp)), B1.out⟩
set_option maxRecDepth 100000 in
set_option maxHeartbeats 4000000 in
theorem padd1 (y x : SnX) (g1 : Nat) (w : World) (h1 : Row w g1 25 y.cells) : Calls Try.prog 33 #[.agg x.cells.toArray, .pointer (some ⟨g1, 0, none⟩)] w fun e w' => e = .returned (.bool (belowM y.s x.s)) ∧ Below w.heap.size w w' := by
  have HK := Lib.hid (fun w => porder x y w)
  have hoc := ordM_cases x.s y.s
  obtain ⟨ov, hov⟩ : ∃ z, ordM x.s y.s = z := ⟨_, rfl⟩
  rw [hov] at HK hoc
  have HX := Lib.hid (show (decide (0 < ov)) = belowM y.s x.s by rcases hoc with ⟨rfl, -, h⟩ | ⟨rfl, -, h⟩ | ⟨rfl, -, h⟩ <;> rw [h] <;> decide)
  obtain ⟨⟨xs, xn, xb, xt, xk, P⟩, xa, xm, xc⟩ := x
  obtain ⟨⟨ys, yn, yb, yt, yk, Q⟩, ya, ym, yc⟩ := y
  have H1 := Lib.hid h1
  have SZ := Lib.hid sn_size
  clear h1 hoc hov
  go_enter Try.func33, Try.ntmps33
  go_wp2_with (first
    | (with_reducible refine box_row (o := ⟨some 2, _, _, _, _, _⟩) rfl _ _ rfl (snC xs xn xb xt xk xa xm xc) rfl ?_; intro w1 hr1 hb1 hz1; have R1 := Lib.hid hr1; have R2 := Lib.hid (H1.out.below hb1 H1.out.lt); have B1 := Lib.hid hb1; clear hr1 hb1 hz1)
    | ((with_reducible refine load_row (o := ⟨some 4, _, _, _, _, _⟩) rfl _ _ rfl w.heap.size ?_ _ (snC xs xn xb xt xk xa xm xc) _ R1.out Try.underlying25 rfl ?_ ?_); (focus go_simp); (focus (exact SZ.out)))
    | ((with_reducible refine load_row (o := ⟨some 5, _, _, _, _, _⟩) rfl _ _ rfl g1 ?_ _ (snC ys yn yb yt yk ya ym yc) _ R2.out Try.underlying25 rfl ?_ ?_); (focus go_simp); (focus (exact SZ.out)))
    | (go_at_call 34; (with_reducible refine (HK.out w1).mono ?_); rintro x w5 ⟨rfl, hb5⟩; have B5 := Lib.hid (B1.out.trans (hb5.mono B1.out.size)); clear hb5))
  go_ret
  exact ⟨one (vbool (by rw [← HX.out]; first | done | rfl | simp)), B5.out⟩
theorem first_orM (p : SnX → Bool) : ∀ L : List SnX, (∀ (i : Nat) (x : SnX), L[i]? = some x → p x = false) ∨ ∃ (k : Nat) (y : SnX), L[k]? = some y ∧ p y = true ∧ ∀ i, i < k → ∀ x, L[i]? = some x → p x = false
  | [] => .inl (fun i x h => by simp at h)
  | s :: L => by
    cases h : p s with
    | true => exact .inr ⟨0, s, rfl, h, fun i hi => absurd hi (Nat.not_lt_zero _)⟩
    | false =>
      rcases first_orM p L with h1 | ⟨k, y, h1, h2, h3⟩
      · refine .inl (fun i x hx => ?_)
        cases i with
        | zero => simp at hx; rw [← hx]; exact h
        | succ i => exact h1 i x (by simpa using hx)
      · refine .inr ⟨k + 1, y, by simpa using h1, h2, fun i hi x hx => ?_⟩
        cases i with
        | zero => simp at hx; rw [← hx]; exact h
        | succ i => exact h3 i (by omega) x (by simpa using hx)
/-- z is the place of the first one of which p is true; -1 if there is none -/
def IxM {α : Type} (p : α → Bool) (L : List α) (z : Int) : Prop := (z = -1 ∧ ∀ (i : Nat) (x : α), L[i]? = some x → p x = false) ∨ ∃ (k : Nat) (y : α), z = (k : Int) ∧ L[k]? = some y ∧ p y = true ∧ ∀ i, i < k → ∀ x, L[i]? = some x → p x = false
theorem IxM.uniq {α : Type} {p : α → Bool} {L : List α} {z z' : Int} (h : IxM p L z) (h' : IxM p L z') : z = z' := by
  rcases h with ⟨rfl, h⟩ | ⟨k, y, rfl, h1, h2, h3⟩
  · rcases h' with ⟨rfl, h'⟩ | ⟨k', y', rfl, h1', h2', h3'⟩
    · rfl
    · rw [h k' y' h1'] at h2'; cases h2'
  · rcases h' with ⟨rfl, h'⟩ | ⟨k', y', rfl, h1', h2', h3'⟩
    · rw [h' k y h1] at h2; cases h2
    · rcases Nat.lt_trichotomy k k' with hk | rfl | hk
      · rw [h3' k hk y h1] at h2; cases h2
      · rfl
      · rw [h3 k' hk y' h1'] at h2'; cases h2'
theorem map_atr {X : List SnX} {L : List Sn} (e : X.map (·.s) = L) {k : Nat} {s : Sn} (h : L[k]? = some s) : ∃ x, X[k]? = some x ∧ x.s = s := by
  rw [← e, List.getElem?_map] at h
  cases hx : X[k]? with
  | none => rw [hx] at h; cases h
  | some x => rw [hx] at h; exact ⟨x, rfl, by simpa using h⟩
theorem IxM.map {X : List SnX} {L : List Sn} (e : X.map (·.s) = L) {p : Sn → Bool} {z : Int} (h : IxM (fun x => p x.s) X z) : IxM p L z := by
  rcases h with ⟨rfl, h⟩ | ⟨k, y, rfl, h1, h2, h3⟩
  · refine .inl ⟨rfl, fun i s hs => ?_⟩
    obtain ⟨x, hx, rfl⟩ := map_atr e hs
    exact h i x hx
  · refine .inr ⟨k, y.s, rfl, map_at e h1, h2, fun i hi s hs => ?_⟩
    obtain ⟨x, hx, rfl⟩ := map_atr e hs
    exact h3 i hi x hx
def ixM (sp nm : ByteArray) (L : List Sn) : Int := if hasM sp nm L = true then (atM sp nm L : Int) else -1
def axM (s : Sn) (L : List Sn) : Int := if aheadM s L < L.length then (aheadM s L : Int) else -1
theorem ixM_is (sp nm : ByteArray) (L : List Sn) : IxM (callM sp nm) L (ixM sp nm L) := by
  unfold ixM
  rcases at_has sp nm L with ⟨h1, -, h3⟩ | ⟨y, h1, h2, h3, h4⟩
  · rw [h1]; exact .inl ⟨by simp, h3⟩
  · rw [h1]; exact .inr ⟨_, y, by simp, h2, h3, h4⟩
theorem axM_is (s : Sn) (L : List Sn) : IxM (belowM s) L (axM s L) := by
  unfold axM
  rcases ahead_or s L with ⟨h1, h3⟩ | ⟨y, h1, h2, h3, h4⟩
  · rw [h1]; exact .inl ⟨by simp, h3⟩
  · rw [if_pos h1]; exact .inr ⟨_, y, rfl, h2, h3, h4⟩
set_option maxRecDepth 100000 in
set_option maxHeartbeats 8000000 in
theorem snidxC (g1 g2 : Nat) (p : SnX → Bool) (a : Option Addr) (n c : Nat) (L : List SnX) (w : World) (h : Ls snE w a n c L)
    (hc : ∀ (x : SnX) (w' : World), Below w.heap.size w w' → Calls Try.prog 62 #[.agg x.cells.toArray, .pointer (some ⟨g1, 0, none⟩), .pointer (some ⟨g2, 0, none⟩)] w' fun e w'' => e = .returned (.bool (p x)) ∧ Below w'.heap.size w' w'') :
    Calls Try.prog 32 #[.slice a n c, .func (.func 62) #[] #[.pointer (some ⟨g1, 0, none⟩), .pointer (some ⟨g2, 0, none⟩)]] w fun x w' => ∃ z : Int, x = .returned (.int .i64 z) ∧ Below w.heap.size w w' ∧ IxM p L z := by
  have H := Lib.hid h
  have HCC := Lib.hid hc
  have hm := h.hmax
  have hle := h.hle
  have SZ := Lib.hid sn_size
  clear h hc
  go_enter Try.func32, Try.ntmps32
  go_wp2_with fail
  go_loopw [8] (fun i wr => ∃ k : Nat, i = .int .i64 (k : Int) ∧ k ≤ n ∧ Hid (∀ i, i < k → ∀ x, L[i]? = some x → p x = false) ∧ Hid (Below w.heap.size w wr)) (fun i _ => n - (intOf i).toNat)
  case atStart => exact ⟨0, rfl, Nat.zero_le _, Lib.hid (fun i h => absurd h (by omega)), Lib.hid (Below.refl _ _)⟩
  case round =>
    obtain ⟨k, rfl, hk, HP, B⟩ := hrel
    by_cases hlt : k < n
    · obtain ⟨b, off, x, rfl, hx, hcell, -⟩ := H.out.at snOk B.out k hlt
      have HC := Lib.hid (HCC.out x wr B.out)
      obtain ⟨q, hq⟩ : ∃ q, p x = q := ⟨_, rfl⟩
      rw [hq] at HC
      have HQ := Lib.hid hq
      have HX := Lib.hid hx
      obtain ⟨⟨xs, xn, xb, xt, xk, P⟩, xa, xm, xc⟩ := x
      have XC := Lib.hid hcell
      have g1 : (0 : Int) ≤ (k : Int) := by omega
      have g2 : (k : Int) < (n : Int) := by omega
      clear hx hcell hq
      cases q
      · go_wp2_with (first
          | ((with_reducible refine load_cells (o := ⟨some 15, _, _, _, _, _⟩) rfl _ _ rfl b (off + k * 6) ?_ (snC xs xn xb xt xk xa xm xc) _ XC.out Try.underlying25 rfl ?_ ?_); (focus go_simp); (focus (exact SZ.out)))
          | (go_at_call 62; (with_reducible refine HC.out.mono ?_); rintro x w5 ⟨rfl, hb5⟩; have B5 := Lib.hid (B.out.trans (hb5.mono B.out.size)); clear hb5))
        go_roundw
        case rel =>
          refine ⟨k + 1, vint (by omega), by omega, Lib.hid ?_, B5⟩
          intro i hi x hx
          by_cases h : i < k
          · exact HP.out i h x hx
          · obtain rfl : i = k := by omega
            rw [HX.out] at hx; injection hx with hx; subst hx; exact HQ.out
        case measure => simp [intOf]; omega
      · go_wp2_with (first
          | ((with_reducible refine load_cells (o := ⟨some 15, _, _, _, _, _⟩) rfl _ _ rfl b (off + k * 6) ?_ (snC xs xn xb xt xk xa xm xc) _ XC.out Try.underlying25 rfl ?_ ?_); (focus go_simp); (focus (exact SZ.out)))
          | (go_at_call 62; (with_reducible refine HC.out.mono ?_); rintro x w5 ⟨rfl, hb5⟩; have B5 := Lib.hid (B.out.trans (hb5.mono B.out.size)); clear hb5))
        go_ret
        exact ⟨(k : Int), rfl, B5.out, .inr ⟨k, _, rfl, HX.out, HQ.out, HP.out⟩⟩
    · obtain rfl : n = k := by omega
      go_wp2_with fail
      go_ret
      exact ⟨-1, rfl, B.out, .inl ⟨rfl, fun i x hx => HP.out i (by have := (List.getElem?_eq_some_iff.1 hx).1; rw [H.out.hlen] at this; exact this) x hx⟩⟩
set_option maxRecDepth 100000 in
set_option maxHeartbeats 8000000 in
theorem snidxA (g1 : Nat) (p : SnX → Bool) (a : Option Addr) (n c : Nat) (L : List SnX) (w : World) (h : Ls snE w a n c L)
    (hc : ∀ (x : SnX) (w' : World), Below w.heap.size w w' → Calls Try.prog 33 #[.agg x.cells.toArray, .pointer (some ⟨g1, 0, none⟩)] w' fun e w'' => e = .returned (.bool (p x)) ∧ Below w'.heap.size w' w'') :
    Calls Try.prog 32 #[.slice a n c, .func (.func 33) #[] #[.pointer (some ⟨g1, 0, none⟩)]] w fun x w' => ∃ z : Int, x = .returned (.int .i64 z) ∧ Below w.heap.size w w' ∧ IxM p L z := by
  have H := Lib.hid h
  have HCC := Lib.hid hc
  have hm := h.hmax
  have hle := h.hle
  have SZ := Lib.hid sn_size
  clear h hc
  go_enter Try.func32, Try.ntmps32
  go_wp2_with fail
  go_loopw [8] (fun i wr => ∃ k : Nat, i = .int .i64 (k : Int) ∧ k ≤ n ∧ Hid (∀ i, i < k → ∀ x, L[i]? = some x → p x = false) ∧ Hid (Below w.heap.size w wr)) (fun i _ => n - (intOf i).toNat)
  case atStart => exact ⟨0, rfl, Nat.zero_le _, Lib.hid (fun i h => absurd h (by omega)), Lib.hid (Below.refl _ _)⟩
  case round =>
    obtain ⟨k, rfl, hk, HP, B⟩ := hrel
    by_cases hlt : k < n
    · obtain ⟨b, off, x, rfl, hx, hcell, -⟩ := H.out.at snOk B.out k hlt
      have HC := Lib.hid (HCC.out x wr B.out)
      obtain ⟨q, hq⟩ : ∃ q, p x = q := ⟨_, rfl⟩
      rw [hq] at HC
      have HQ := Lib.hid hq
      have HX := Lib.hid hx
      obtain ⟨⟨xs, xn, xb, xt, xk, P⟩, xa, xm, xc⟩ := x
      have XC := Lib.hid hcell
      have g1 : (0 : Int) ≤ (k : Int) := by omega
      have g2 : (k : Int) < (n : Int) := by omega
      clear hx hcell hq
      cases q
      · go_wp2_with (first
          | ((with_reducible refine load_cells (o := ⟨some 15, _, _, _, _, _⟩) rfl _ _ rfl b (off + k * 6) ?_ (snC xs xn xb xt xk xa xm xc) _ XC.out Try.underlying25 rfl ?_ ?_); (focus go_simp); (focus (exact SZ.out)))
          | (go_at_call 33; (with_reducible refine HC.out.mono ?_); rintro x w5 ⟨rfl, hb5⟩; have B5 := Lib.hid (B.out.trans (hb5.mono B.out.size)); clear hb5))
        go_roundw
        case rel =>
          refine ⟨k + 1, vint (by omega), by omega, Lib.hid ?_, B5⟩
          intro i hi x hx
          by_cases h : i < k
          · exact HP.out i h x hx
          · obtain rfl : i = k := by omega
            rw [HX.out] at hx; injection hx with hx; subst hx; exact HQ.out
        case measure => simp [intOf]; omega
      · go_wp2_with (first
          | ((with_reducible refine load_cells (o := ⟨some 15, _, _, _, _, _⟩) rfl _ _ rfl b (off + k * 6) ?_ (snC xs xn xb xt xk xa xm xc) _ XC.out Try.underlying25 rfl ?_ ?_); (focus go_simp); (focus (exact SZ.out)))
          | (go_at_call 33; (with_reducible refine HC.out.mono ?_); rintro x w5 ⟨rfl, hb5⟩; have B5 := Lib.hid (B.out.trans (hb5.mono B.out.size)); clear hb5))
        go_ret
        exact ⟨(k : Int), rfl, B5.out, .inr ⟨k, _, rfl, HX.out, HQ.out, HP.out⟩⟩
    · obtain rfl : n = k := by omega
      go_wp2_with fail
      go_ret
      exact ⟨-1, rfl, B.out, .inl ⟨rfl, fun i x hx => HP.out i (by have := (List.getElem?_eq_some_iff.1 hx).1; rw [H.out.hlen] at this; exact this) x hx⟩⟩
theorem idxcall (sp nm : ByteArray) (g1 g2 : Nat) (a : Option Addr) (n c : Nat) (L : List Sn) (w : World) (h : SnL w a n c L) (h1 : Row w g1 9 [.string sp]) (h2 : Row w g2 9 [.string nm]) :
    Calls Try.prog 32 #[.slice a n c, .func (.func 62) #[] #[.pointer (some ⟨g1, 0, none⟩), .pointer (some ⟨g2, 0, none⟩)]] w fun x w' => x = .returned (.int .i64 (ixM sp nm L)) ∧ Below w.heap.size w w' := by
  obtain ⟨X, hX, e⟩ := h
  refine (snidxC g1 g2 (fun x => callM sp nm x.s) a n c X w hX (fun x w' hb => pcalled1 sp nm x g1 g2 w' (h1.below hb h1.lt) (h2.below hb h2.lt))).mono ?_
  rintro x w' ⟨z, rfl, hb, hz⟩
  exact ⟨by rw [(hz.map e).uniq (ixM_is sp nm L)], hb⟩
theorem idxabove (y : SnX) (g1 : Nat) (a : Option Addr) (n c : Nat) (L : List Sn) (w : World) (h : SnL w a n c L) (h1 : Row w g1 25 y.cells) :
    Calls Try.prog 32 #[.slice a n c, .func (.func 33) #[] #[.pointer (some ⟨g1, 0, none⟩)]] w fun x w' => x = .returned (.int .i64 (axM y.s L)) ∧ Below w.heap.size w w' := by
  obtain ⟨X, hX, e⟩ := h
  refine (snidxA g1 (fun x => belowM y.s x.s) a n c X w hX (fun x w' hb => padd1 y x g1 w' (h1.below hb h1.lt))).mono ?_
  rintro x w' ⟨z, rfl, hb, hz⟩
  exact ⟨by rw [(hz.map e).uniq (axM_is y.s L)], hb⟩
theorem ixM_ge (sp nm : ByteArray) (L : List Sn) : decide (0 ≤ ixM sp nm L) = hasM sp nm L := by
  unfold ixM; cases hasM sp nm L <;> simp
set_option maxRecDepth 100000 in
set_option maxHeartbeats 4000000 in
theorem pcont (sp nm : ByteArray) (g1 g2 : Nat) (a : Option Addr) (n c : Nat) (L : List Sn) (w : World) (h : SnL w a n c L) (h1 : Row w g1 9 [.string sp]) (h2 : Row w g2 9 [.string nm]) :
    Calls Try.prog 30 #[.slice a n c, .func (.func 62) #[] #[.pointer (some ⟨g1, 0, none⟩), .pointer (some ⟨g2, 0, none⟩)]] w fun x w' => x = .returned (.bool (hasM sp nm L)) ∧ Below w.heap.size w w' := by
  have HI := Lib.hid (idxcall sp nm g1 g2 a n c L w h h1 h2)
  have HG := Lib.hid (ixM_ge sp nm L)
  generalize ixM sp nm L = z at HI HG
  clear h h1 h2
  go_enter Try.func30, Try.ntmps30
  go_wp2_with (first
    | (go_at_call 32; (with_reducible refine HI.out.mono ?_); rintro x w5 ⟨rfl, hb5⟩; have B5 := Lib.hid hb5; clear hb5))
  go_ret
  exact ⟨one (vbool (by rw [← HG.out]; first | done | rfl | simp)), B5.out⟩
end Go.Proofs.Ytdinfpjckmgihaa.W
