/- LAYER 20 (manifest): copies: slices.Clone of pieces and of snapshots, own, lists.Copy of the program. LAYER 20 (manifest): called, the closure of Add, IndexFunc, ContainsFunc, Find of the program. -/
import Derived.Test.YtjolmjbhpokgmaaGreatMfPk
import Derived.Test.YtjolmjbhpokgmaaGreatMfA
import Derived.Test.YtjolmjbhpokgmaaGreatDel
set_option linter.unusedSimpArgs false
set_option linter.unusedVariables false
namespace Go.Proofs.YtjolmjbhpokgmaaGreat.W
open Go Go.ChangeShapes Go.WideShapes Go.ChangeAt Go.RowKit
open Go.Proofs.YtjolmjbhpokgmaaGreat.P (enc dec)
open Go.Proofs.YtjolmjbhpokgmaaGreat.S

set_option maxRecDepth 100000 in
set_option maxHeartbeats 16000000 in
theorem snclone (a : Option Addr) (n c : Nat) (L : List SnX) (w : World) (h : Ls snE w a n c L) (hn : n ≤ 1000) :
    Calls Tryz.prog 70 #[.slice a n c] w fun x w' => ∃ a' c', x = .returned (.slice a' n c') ∧ LsO snE w' w.heap.size (.slice a' n c') L ∧ Below w.heap.size w w' := by
  have H := Lib.hid h
  have hnil := fun (w : World) (a : Option Addr) (n c : Nat) => Lib.run_eql_slice_nil (P := Tryz.prog) w 22 45 a n c 0 0 Tryz.underlying22
  rcases a with _ | ad
  · have h0 := h.hnil rfl
    have h1 := h.hle
    have h2 := h.hlen
    obtain rfl : n = 0 := by omega
    have : L = [] := List.eq_nil_of_length_eq_zero h2
    subst this h0
    clear h h1 h2
    go_enter Tryz.func70, Tryz.ntmps70
    go_wp2_with fail
    go_ret
    exact ⟨none, 0, rfl, LsO.nil _ _, Below.refl _ _⟩
  · have HL := Lib.hid h.hlen
    have HFIT := Lib.hid (show ∀ w', Below w.heap.size w w' → ∀ x ∈ L, snE.fit w' x from fun w' hb x hx => snOk.mono x _ _ (h.hfit x hx) hb)
    clear h
    go_enter Tryz.func70, Tryz.ntmps70
    go_wp2_with (at_builtin; refine append_ls snOk rfl _ _ rfl w.heap.size _ [] rfl (LsO.empty w _ (Nat.le_refl _)) (some ad) n c L rfl (H.out.mono snOk ((Below.refl _ _).alloc (Nat.le_refl _) _)) (by simp; omega) (by simp) ?_; intro v2 w2 hN hb2 _ _; have N2 := Lib.hid (show LsO snE w2 w.heap.size v2 L from hN); have B2 := Lib.hid (((Below.refl _ _).alloc (Nat.le_refl _) _).trans hb2); clear hN hb2)
    obtain ⟨a2, c2, hv, -, -⟩ := N2.out.ls snOk (HFIT.out _ B2.out)
    subst hv
    rw [HL.out] at N2 ⊢
    go_ret
    exact ⟨a2, c2, rfl, N2.out, B2.out⟩
set_option maxRecDepth 100000 in
set_option maxHeartbeats 4000000 in
theorem mown (sp nm : ByteArray) (bt ti ke : Int) (pa : Option Addr) (pm pc : Nat) (P : List Pc) (w : World) (h : Ls pcE w pa pm pc P) (hm : pm ≤ 1000) :
    Calls Tryz.prog 52 #[.agg (snC sp nm bt ti ke pa pm pc).toArray] w fun x w' => ∃ a2 c2, x = .returned (.agg (snC sp nm bt ti ke a2 pm c2).toArray) ∧ LsO pcE w' w.heap.size (.slice a2 pm c2) P ∧ Below w.heap.size w w' := by
  have SZ := Lib.hid sn_size
  have LZ := Lib.hid sn_zero
  have HC := Lib.hid (fun w' (hb : Below w.heap.size w w') => pcclone pa pm pc P w' (h.mono pcOk hb) hm)
  clear h
  go_enter Tryz.func52, Tryz.ntmps52
  go_wp2_with (first
    | ((with_reducible refine box_row (o := ⟨some 1, _, _, _, _, _⟩) rfl _ _ rfl (snC sp nm bt ti ke pa pm pc) rfl ?_); intro w1 hr hb hz; have R1 := Lib.hid hr; have B1 := Lib.hid hb; have B1S := Lib.hid (show w.heap.size < w1.heap.size by omega); clear hr hb hz)
    | ((with_reducible refine alloc_row (o := ⟨some 2, _, _, _, _, _⟩) rfl _ rfl _ LZ.out ?_); intro w2 hr hb hz; have R22 := Lib.hid hr; have R12 := Lib.hid (R1.out.below hb R1.out.lt); obtain ⟨c0, c1, c2, c3, c4, c5⟩ := R12.out.h6s; have B2 := Lib.hid (B1.out.trans (hb.mono B1.out.size)); clear hr hb hz c0 c1 c2 c3 c4)
    | (go_at_call 71; (with_reducible refine (HC.out w2 B2.out).mono ?_); rintro x w3 ⟨a3, c3, rfl, hown, hb⟩; have O3 := Lib.hid hown; have R13 := Lib.hid (R12.out.below hb R12.out.lt); have R23 := Lib.hid (R22.out.below hb R22.out.lt); have B3 := Lib.hid (B2.out.trans (hb.mono B2.out.size)); clear hown hb c5)
    | ((with_reducible refine store_cell (o := ⟨none, _, _, _, _, _⟩) rfl _ (.tmp 6) _ rfl w.heap.size 5 (.slice a3 pm c3) ?_ ?_ rfl rfl 45 _ R13.out ?_ ?_ ?_); (focus go_simp); (focus go_simp); (focus (kernel_rfl)); (focus (show 5 < 6; decide)); intro w4 hr hu; have R14 := Lib.hid (show Row w4 w.heap.size 45 (snC sp nm bt ti ke a3 pm c3) from hr); have R24 := Lib.hid (R23.out.upd hu (Nat.ne_of_gt B1S.out)); have O4 := Lib.hid (lso_upd_lt O3.out hu R12.out.lt); have B4 := Lib.hid (B3.out.trans (hu.below (Nat.le_refl _))); clear hr hu)
    | ((with_reducible refine load_row (o := ⟨some 7, _, _, _, _, _⟩) rfl _ _ rfl w.heap.size ?_ _ (snC sp nm bt ti ke a3 pm c3) _ R14.out Tryz.underlying45 rfl ?_ ?_); (focus go_simp); (focus (exact SZ.out)))
    | ((with_reducible refine store_row (o := ⟨none, _, _, _, _, _⟩) rfl _ (.tmp 2) _ rfl w1.heap.size (snC sp nm bt ti ke a3 pm c3) ?_ ?_ 45 _ R24.out ?_ ?_ ?_ ?_); (focus go_simp); (focus (first | (go_simp; done) | (go_simp; rfl))); (focus (exact SZ.out)); (focus rfl); (focus (exact sn_one _ _ _ _ _ _ _ _)); intro w5 hr5 hu5; have R25 := Lib.hid hr5; have O5 := Lib.hid (lso_upd_lt O4.out hu5 R22.out.lt); have B5 := Lib.hid (B4.out.trans (hu5.below B1.out.size)); clear hr5 hu5))
  exact bodyPost_ret (results_cell_row rfl _ _ w1.heap.size 45 _ _ _ (by go_simp) R25.out Tryz.underlying45 rfl SZ.out) rfl ⟨_, _, rfl, O5.out.base B2.out.size, B5.out⟩
/-- a snapshot whose pieces the call made -/
structure OwnX (w : World) (base : Nat) (x : SnX) : Prop where
  sp : x.s.sp.size ≤ maxLen
  nm : x.s.nm.size ≤ maxLen
  by' : SI64 x.s.by'
  ti : SI64 x.s.ti
  ke : SI64 x.s.ke
  len : x.s.P.length = x.m
  pf : ∀ p ∈ x.s.P, p.fit
  own : LsO pcE w base (.slice x.a x.m x.c) x.s.P
theorem OwnX.fit {w : World} {base : Nat} {x : SnX} (h : OwnX w base x) : x.fit w := ⟨h.sp, h.nm, h.by', h.ti, h.ke, lso_out pcOk h.own h.len h.pf⟩
theorem OwnX.kept {w w' : World} {base : Nat} {x : SnX} (h : OwnX w base x) (hb : Below w.heap.size w w') : OwnX w' base x := ⟨h.sp, h.nm, h.by', h.ti, h.ke, h.len, h.pf, h.own.kept hb⟩
theorem OwnX.upd {w w' : World} {base g : Nat} {x : SnX} {C : List Value} (h : OwnX w base x) (hr : Row w g 45 C) (hu : Upd w w' g) : OwnX w' base x := ⟨h.sp, h.nm, h.by', h.ti, h.ke, h.len, h.pf, h.own.upd hu (lso_ne h.own hr (by decide))⟩
theorem OwnX.base {w : World} {base base' : Nat} {x : SnX} (h : OwnX w base x) (hb : base' ≤ base) : OwnX w base' x := ⟨h.sp, h.nm, h.by', h.ti, h.ke, h.len, h.pf, h.own.base hb⟩
/-- snapshots that the call made, with all their pieces -/
def SnO (w : World) (base : Nat) (v : Value) (L : List Sn) : Prop := ∃ X : List SnX, LsO snE w base v X ∧ X.map (·.s) = L ∧ ∀ x ∈ X, OwnX w base x
theorem SnO.kept {w w' : World} {base : Nat} {v : Value} {L : List Sn} (h : SnO w base v L) (hb : Below w.heap.size w w') : SnO w' base v L := by
  obtain ⟨X, h1, h2, h3⟩ := h
  exact ⟨X, h1.kept hb, h2, fun x hx => (h3 x hx).kept hb⟩
theorem SnO.base {w : World} {base base' : Nat} {v : Value} {L : List Sn} (h : SnO w base v L) (hb : base' ≤ base) : SnO w base' v L := by
  obtain ⟨X, h1, h2, h3⟩ := h
  exact ⟨X, h1.base hb, h2, fun x hx => (h3 x hx).base hb⟩
theorem SnO.snl {w : World} {base : Nat} {v : Value} {L : List Sn} (h : SnO w base v L) : ∃ a c, v = .slice a L.length c ∧ SnL w a L.length c L := by
  obtain ⟨X, h1, h2, h3⟩ := h
  obtain ⟨a, c, e, hl, -⟩ := h1.ls snOk (fun x hx => (h3 x hx).fit)
  have hX : X.length = L.length := by rw [← h2, List.length_map]
  rw [hX] at e hl
  exact ⟨a, c, e, X, hl, h2⟩
/-- snapshots of the caller's, of which none has too many pieces -/
def FewP (L : List Sn) : Prop := ∀ s ∈ L, s.P.length ≤ 1000
set_option maxRecDepth 100000 in
set_option maxHeartbeats 16000000 in
theorem mcopy (a : Option Addr) (n c : Nat) (L : List Sn) (w : World) (h : SnL w a n c L) (hn : n ≤ 1000) (hf : FewP L) :
    Calls Tryz.prog 51 #[.slice a n c, .func (.func 52) #[] #[]] w fun x w' => ∃ a' c', x = .returned (.slice a' n c') ∧ SnO w' w.heap.size (.slice a' n c') L ∧ Below w.heap.size w w' := by
  obtain ⟨X, h, hXL⟩ := h
  have HXn := Lib.hid h.hlen
  have HXL := Lib.hid hXL
  have HXF := Lib.hid (show ∀ w', Below w.heap.size w w' → ∀ x ∈ X, x.fit w' from fun w' hb x hx => snOk.mono x _ _ (h.hfit x hx) hb)
  have HPM := Lib.hid (show ∀ x ∈ X, x.m ≤ 1000 from fun x hx => by
    have := hf x.s (by rw [← hXL]; exact List.mem_map_of_mem hx)
    rw [(h.hfit x hx).P.hlen] at this; exact this)
  have SZ := Lib.hid sn_size
  have MZ := Lib.hid sn_zero
  have HCL := Lib.hid (snclone a n c X w h hn)
  clear h hXL hf
  go_enter Tryz.func51, Tryz.ntmps51
  go_wp2_with (go_at_call 70; (with_reducible refine HCL.out.mono ?_); rintro x w1 ⟨a1, c1, rfl, hown, hb⟩; have O1 := Lib.hid hown; have B1 := Lib.hid hb; clear hown hb)
  go_loopw [12] (fun i wr => ∃ (k : Nat) (Y : List SnX), i = .int .i64 (k : Int) ∧ k ≤ n ∧ Hid (LsO snE wr w.heap.size (.slice a1 n c1) Y) ∧ Hid (Y.length = n) ∧ Hid (Y.map (·.s) = L) ∧ Hid (∀ (i : Nat) (y : SnX), Y[i]? = some y → (i < k ∧ OwnX wr w.heap.size y) ∨ (k ≤ i ∧ X[i]? = some y)) ∧ Hid (Below w.heap.size w wr)) (fun i _ => n - (intOf i).toNat)
  case atStart => exact ⟨0, X, rfl, Nat.zero_le _, O1, HXn, HXL, Lib.hid (fun i y hy => .inr ⟨Nat.zero_le _, hy⟩), B1⟩
  case round =>
    obtain ⟨k, Y, rfl, hk, O, YN, YL, YO, B⟩ := hrel
    have YF := Lib.hid (show ∀ y ∈ Y, y.fit wr from fun y hy => by
      obtain ⟨i, hi, e⟩ := List.getElem_of_mem hy
      rcases YO.out i y (by rw [List.getElem?_eq_getElem hi, e]) with ⟨-, h1⟩ | ⟨-, h1⟩
      · exact h1.fit
      · exact HXF.out wr B.out y (List.mem_of_getElem? h1))
    by_cases hlt : k < n
    · have hkY : k < Y.length := by rw [YN.out]; exact hlt
      obtain ⟨g, rfl, hgb, hgl, hgc, hgm⟩ := lso_ptr2 O.out (by omega)
      obtain ⟨b, off, y, hab, hy, hcell, hfy⟩ := (lso_out snOk O.out YN.out YF.out).at snOk (Below.refl _ _) k hlt
      obtain ⟨rfl, rfl⟩ : g = b ∧ 0 = off := by injection hab with hab; injection hab with e1 e2; exact ⟨e1, e2⟩
      rw [Nat.zero_add] at hcell
      have hym : y.m ≤ 1000 := by
        rcases YO.out k y hy with ⟨h1, -⟩ | ⟨-, h1⟩
        · omega
        · exact HPM.out y (List.mem_of_getElem? h1)
      obtain ⟨⟨sp, nm, bt, ti, ke, P⟩, pa, pm, pc⟩ := y
      have F1 := Lib.hid hfy
      have HY := Lib.hid hy
      have HOW := Lib.hid (fun w' (hb : Below wr.heap.size wr w') => mown sp nm bt ti ke pa pm pc P w' (hfy.P.mono pcOk hb) hym)
      have XC := Lib.hid hcell
      have GB := Lib.hid hgb
      have g1 : (0 : Int) ≤ (k : Int) := by omega
      have g2 : (k : Int) < (n : Int) := by omega
      have hgm : c1 ≤ 9223372036854775807 := by unfold maxLen at hgm; omega
      clear hab hy hcell hfy hym hgb hgl
      go_wp2_with (first
        | ((with_reducible refine load_cells (o := ⟨some 16, _, _, _, _, _⟩) rfl _ _ rfl g (k * 6) ?_ (snC sp nm bt ti ke pa pm pc) _ XC.out Tryz.underlying45 rfl ?_ ?_); (focus go_simp); (focus (exact SZ.out)))
        | ((with_reducible refine alloc_row (o := ⟨some 7, _, _, _, _, _⟩) rfl _ rfl _ MZ.out ?_); intro w5 hr hb hz; have R5 := Lib.hid hr; have N5 := Lib.hid hb; have B5 := Lib.hid (B.out.trans (hb.mono B.out.size)); clear hr hb hz)
        | ((with_reducible refine store_row (o := ⟨none, _, _, _, _, _⟩) rfl _ (.tmp 7) _ rfl wr.heap.size (snC sp nm bt ti ke pa pm pc) ?_ ?_ 45 _ R5.out ?_ ?_ ?_ ?_); (focus go_simp); (focus (first | (go_simp; done) | (go_simp; rfl))); (focus (exact SZ.out)); (focus rfl); (focus (exact sn_one _ _ _ _ _ _ _ _)); intro w6 hr hu; have R6 := Lib.hid hr; have N6 := Lib.hid (N5.out.trans (hu.below (Nat.le_refl _))); clear hr hu)
        | ((with_reducible refine load_row (o := ⟨some 20, _, _, _, _, _⟩) rfl _ _ rfl wr.heap.size ?_ _ (snC sp nm bt ti ke pa pm pc) _ R6.out Tryz.underlying45 rfl ?_ ?_); (focus go_simp); (focus (exact SZ.out)))
        | (go_at_call 52; (with_reducible refine (HOW.out w6 N6.out).mono ?_); rintro x w7 ⟨a7, c7, rfl, hown, hb⟩; have O7 := Lib.hid (hown.base (Nat.le_trans B.out.size N6.out.size)); have N7 := Lib.hid (N6.out.trans (hb.mono N6.out.size)); have L7 := Lib.hid (O.out.kept N7.out); have B7 := Lib.hid (B.out.trans (N7.out.mono B.out.size)); obtain ⟨cur, hrow, hcf, hnew⟩ := LsO.set snOk L7.out k hkY ⟨⟨sp, nm, bt, ti, ke, P⟩, a7, pm, c7⟩; have HROW := Lib.hid hrow; have HCF := Lib.hid hcf; have HNEW := Lib.hid hnew; clear hown hb hrow hcf hnew)
        | ((with_reducible refine store_prt (o := ⟨none, _, _, _, _, _⟩) rfl _ (.tmp 22) _ rfl g (k * 6) (snC sp nm bt ti ke a7 pm c7) ?_ ?_ 45 cur HROW.out ?_ ?_ ?_ ?_); (focus (first | (go_simp; done) | (go_simp; rfl))); (focus (first | (go_simp; done) | (go_simp; rfl))); (focus (exact SZ.out)); (focus (exact HCF.out)); (focus (exact sn_one _ _ _ _ _ _ _ _)); intro w8 hr hu; have L8 := Lib.hid (HNEW.out w8 hr); have U8 := Lib.hid hu; have B8 := Lib.hid (B7.out.trans (hu.below GB.out)); clear hr hu))
      go_roundw
      case rel =>
        refine ⟨k + 1, Y.set k ⟨⟨sp, nm, bt, ti, ke, P⟩, a7, pm, c7⟩, vint (by omega), by omega, L8, Lib.hid (by rw [List.length_set]; exact YN.out), Lib.hid ?_, Lib.hid ?_, B8⟩
        · rw [List.map_set, YL.out]
          apply List.ext_getElem?
          intro i
          by_cases hik : i = k
          · subst hik
            have := map_at YL.out HY.out
            have hkl : i < L.length := (List.getElem?_eq_some_iff.1 this).1
            rw [List.getElem?_set_self hkl, this]
          · rw [List.getElem?_set_ne (fun e => hik e.symm)]
        · intro i z hz
          by_cases hik : i = k
          · subst hik
            rw [List.getElem?_set_self hkY] at hz
            obtain rfl := Option.some.inj hz
            exact .inl ⟨Nat.lt_succ_self _, ⟨F1.out.sp, F1.out.nm, F1.out.by', F1.out.ti, F1.out.ke, F1.out.P.hlen, fun p hp => F1.out.P.hfit p hp, O7.out.upd U8.out (lso_ne O7.out HROW.out (by decide))⟩⟩
          · rw [List.getElem?_set_ne (fun e => hik e.symm)] at hz
            rcases YO.out i z hz with ⟨h1, h2⟩ | ⟨h1, h2⟩
            · exact .inl ⟨by omega, (h2.kept N7.out).upd HROW.out U8.out⟩
            · exact .inr ⟨by omega, h2⟩
      case measure => simp [intOf]; omega
    · obtain rfl : n = k := by omega
      go_wp2_with fail
      go_ret
      refine ⟨a1, c1, rfl, ⟨Y, O.out, YL.out, fun y hy => ?_⟩, B.out⟩
      obtain ⟨i, hi, e⟩ := List.getElem_of_mem hy
      rcases YO.out i y (by rw [List.getElem?_eq_getElem hi, e]) with ⟨-, h1⟩ | ⟨h1, -⟩
      · exact h1
      · rw [YN.out] at hi; omega
end Go.Proofs.YtjolmjbhpokgmaaGreat.W

namespace Go.Proofs.YtjolmjbhpokgmaaGreat.W
open Go Go.ChangeShapes Go.WideShapes Go.ChangeAt Go.RowKit
open Go.Proofs.YtjolmjbhpokgmaaGreat.P (enc dec)
open Go.Proofs.YtjolmjbhpokgmaaGreat.S

set_option maxRecDepth 100000 in
set_option maxHeartbeats 4000000 in
theorem pcalled (sp nm : ByteArray) (w : World) : Calls Tryz.prog 55 #[.string sp, .string nm] w fun x w' => ∃ g1 g2, x = .returned (.func (.func 76) #[] #[.pointer (some ⟨g1, 0, none⟩), .pointer (some ⟨g2, 0, none⟩)]) ∧ Row w' g1 9 [.string sp] ∧ Row w' g2 9 [.string nm] ∧ Below w.heap.size w w' := by
  go_enter Tryz.func55, Tryz.ntmps55
  go_wp2_with (first
    | ((with_reducible refine box_cell (o := ⟨some 2, _, _, _, _, _⟩) rfl _ _ rfl (.string sp) rfl rfl ?_); intro w1 hr hb hz; have R1 := Lib.hid hr; have B1 := Lib.hid hb; clear hr hb hz)
    | ((with_reducible refine box_cell (o := ⟨some 3, _, _, _, _, _⟩) rfl _ _ rfl (.string nm) rfl rfl ?_); intro w2 hr hb hz; have R2 := Lib.hid hr; have R12 := Lib.hid (R1.out.below hb R1.out.lt); have B2 := Lib.hid (B1.out.trans (hb.mono B1.out.size)); clear hr hb hz))
  go_ret
  exact ⟨_, _, rfl, R12.out, R2.out, B2.out⟩
set_option maxRecDepth 100000 in
set_option maxHeartbeats 4000000 in
theorem pcalled1 (sp nm : ByteArray) (x : SnX) (g1 g2 : Nat) (w : World) (h1 : Row w g1 9 [.string sp]) (h2 : Row w g2 9 [.string nm]) : Calls Tryz.prog 76 #[.agg x.cells.toArray, .pointer (some ⟨g1, 0, none⟩), .pointer (some ⟨g2, 0, none⟩)] w fun e w' => e = .returned (.bool (callM sp nm x.s)) ∧ Below w.heap.size w w' := by
  obtain ⟨⟨xs, xn, xb, xt, xk, P⟩, xa, xm, xc⟩ := x
  obtain ⟨b0, e0⟩ : ∃ b, (xs.toList == sp.toList) = b := ⟨_, rfl⟩
  obtain ⟨b1, e1⟩ : ∃ b, (xn.toList == nm.toList) = b := ⟨_, rfl⟩
  have HX := Lib.hid (show callM sp nm ⟨xs, xn, xb, xt, xk, P⟩ = (b0 && b1) by rw [← e0, ← e1]; rfl)
  have H1 := Lib.hid h1
  have H2 := Lib.hid h2
  clear h1 h2
  cases b0
  all_goals
    go_enter Tryz.func76, Tryz.ntmps76
    go_wp2_with (first
      | (with_reducible refine box_row (o := ⟨some 3, _, _, _, _, _⟩) rfl _ _ rfl (snC xs xn xb xt xk xa xm xc) rfl ?_; intro w1 hr1 hb1 hz1; obtain ⟨c0, c1, c2, c3, c4, c5⟩ := hr1.h6s; have k0 := (H1.out.below hb1 H1.out.lt).k0; have k1 := (H2.out.below hb1 H2.out.lt).k0; have B1 := Lib.hid hb1; clear hr1 hb1 hz1 c2 c3 c4 c5))
    go_ret
    exact ⟨one (vbool (by rw [HX.out]; first | done | rfl | simp)), B1.out⟩
set_option maxRecDepth 100000 in
set_option maxHeartbeats 4000000 in
theorem padd1 (y x : SnX) (g1 : Nat) (w : World) (h1 : Row w g1 45 y.cells) : Calls Tryz.prog 57 #[.agg x.cells.toArray, .pointer (some ⟨g1, 0, none⟩)] w fun e w' => e = .returned (.bool (belowM y.s x.s)) ∧ Below w.heap.size w w' := by
  have HK := Lib.hid (fun w => porder x y w)
  have hoc := ordM_cases x.s y.s
  obtain ⟨ov, hov⟩ : ∃ z, ordM x.s y.s = z := ⟨_, rfl⟩
  rw [hov] at HK hoc
  have HX := Lib.hid (show (decide (0 < ov)) = belowM y.s x.s by rcases hoc with ⟨rfl, -, h⟩ | ⟨rfl, -, h⟩ | ⟨rfl, -, h⟩ <;> rw [h] <;> decide)
  obtain ⟨⟨xs, xn, xb, xt, xk, P⟩, xa, xm, xc⟩ := x
  obtain ⟨⟨ys, yn, yb, yt, yk, Q⟩, ya, ym, yc⟩ := y
  have H1 := Lib.hid h1
  have SZ := Lib.hid sn_size
  clear h1 hoc hov
  go_enter Tryz.func57, Tryz.ntmps57
  go_wp2_with (first
    | (with_reducible refine box_row (o := ⟨some 2, _, _, _, _, _⟩) rfl _ _ rfl (snC xs xn xb xt xk xa xm xc) rfl ?_; intro w1 hr1 hb1 hz1; have R1 := Lib.hid hr1; have R2 := Lib.hid (H1.out.below hb1 H1.out.lt); have B1 := Lib.hid hb1; clear hr1 hb1 hz1)
    | ((with_reducible refine load_row (o := ⟨some 4, _, _, _, _, _⟩) rfl _ _ rfl w.heap.size ?_ _ (snC xs xn xb xt xk xa xm xc) _ R1.out Tryz.underlying45 rfl ?_ ?_); (focus go_simp); (focus (exact SZ.out)))
    | ((with_reducible refine load_row (o := ⟨some 5, _, _, _, _, _⟩) rfl _ _ rfl g1 ?_ _ (snC ys yn yb yt yk ya ym yc) _ R2.out Tryz.underlying45 rfl ?_ ?_); (focus go_simp); (focus (exact SZ.out)))
    | (go_at_call 58; (with_reducible refine (HK.out w1).mono ?_); rintro x w5 ⟨rfl, hb5⟩; have B5 := Lib.hid (B1.out.trans (hb5.mono B1.out.size)); clear hb5))
  go_ret
  exact ⟨one (vbool (by rw [← HX.out]; first | done | rfl | simp)), B5.out⟩
theorem first_orM (p : SnX → Bool) : ∀ L : List SnX, (∀ (i : Nat) (x : SnX), L[i]? = some x → p x = false) ∨ ∃ (k : Nat) (y : SnX), L[k]? = some y ∧ p y = true ∧ ∀ i, i < k → ∀ x, L[i]? = some x → p x = false
  | [] => .inl (fun i x h => by simp at h)
  | s :: L => by
    cases h : p s with
    | true => exact .inr ⟨0, s, rfl, h, fun i hi => absurd hi (Nat.not_lt_zero _)⟩
    | false =>
      rcases first_orM p L with h1 | ⟨k, y, h1, h2, h3⟩
      · refine .inl (fun i x hx => ?_)
        cases i with
        | zero => simp at hx; rw [← hx]; exact h
        | succ i => exact h1 i x (by simpa using hx)
      · refine .inr ⟨k + 1, y, by simpa using h1, h2, fun i hi x hx => ?_⟩
        cases i with
        | zero => simp at hx; rw [← hx]; exact h
        | succ i => exact h3 i (by omega) x (by simpa using hx)
/-- z is the place of the first one of which p is true; -1 if there is none -/
def IxM {α : Type} (p : α → Bool) (L : List α) (z : Int) : Prop := (z = -1 ∧ ∀ (i : Nat) (x : α), L[i]? = some x → p x = false) ∨ ∃ (k : Nat) (y : α), z = (k : Int) ∧ L[k]? = some y ∧ p y = true ∧ ∀ i, i < k → ∀ x, L[i]? = some x → p x = false
theorem IxM.uniq {α : Type} {p : α → Bool} {L : List α} {z z' : Int} (h : IxM p L z) (h' : IxM p L z') : z = z' := by
  rcases h with ⟨rfl, h⟩ | ⟨k, y, rfl, h1, h2, h3⟩
  · rcases h' with ⟨rfl, h'⟩ | ⟨k', y', rfl, h1', h2', h3'⟩
    · rfl
    · rw [h k' y' h1'] at h2'; cases h2'
  · rcases h' with ⟨rfl, h'⟩ | ⟨k', y', rfl, h1', h2', h3'⟩
    · rw [h' k y h1] at h2; cases h2
    · rcases Nat.lt_trichotomy k k' with hk | rfl | hk
      · rw [h3' k hk y h1] at h2; cases h2
      · rfl
      · rw [h3 k' hk y' h1'] at h2'; cases h2'
theorem map_atr {X : List SnX} {L : List Sn} (e : X.map (·.s) = L) {k : Nat} {s : Sn} (h : L[k]? = some s) : ∃ x, X[k]? = some x ∧ x.s = s := by
  rw [← e, List.getElem?_map] at h
  cases hx : X[k]? with
  | none => rw [hx] at h; cases h
  | some x => rw [hx] at h; exact ⟨x, rfl, by simpa using h⟩
theorem IxM.map {X : List SnX} {L : List Sn} (e : X.map (·.s) = L) {p : Sn → Bool} {z : Int} (h : IxM (fun x => p x.s) X z) : IxM p L z := by
  rcases h with ⟨rfl, h⟩ | ⟨k, y, rfl, h1, h2, h3⟩
  · refine .inl ⟨rfl, fun i s hs => ?_⟩
    obtain ⟨x, hx, rfl⟩ := map_atr e hs
    exact h i x hx
  · refine .inr ⟨k, y.s, rfl, map_at e h1, h2, fun i hi s hs => ?_⟩
    obtain ⟨x, hx, rfl⟩ := map_atr e hs
    exact h3 i hi x hx
def ixM (sp nm : ByteArray) (L : List Sn) : Int := if hasM sp nm L = true then (atM sp nm L : Int) else -1
def axM (s : Sn) (L : List Sn) : Int := if aheadM s L < L.length then (aheadM s L : Int) else -1
theorem ixM_is (sp nm : ByteArray) (L : List Sn) : IxM (callM sp nm) L (ixM sp nm L) := by
  unfold ixM
  rcases at_has sp nm L with ⟨h1, -, h3⟩ | ⟨y, h1, h2, h3, h4⟩
  · rw [h1]; exact .inl ⟨by simp, h3⟩
  · rw [h1]; exact .inr ⟨_, y, by simp, h2, h3, h4⟩
theorem axM_is (s : Sn) (L : List Sn) : IxM (belowM s) L (axM s L) := by
  unfold axM
  rcases ahead_or s L with ⟨h1, h3⟩ | ⟨y, h1, h2, h3, h4⟩
  · rw [h1]; exact .inl ⟨by simp, h3⟩
  · rw [if_pos h1]; exact .inr ⟨_, y, rfl, h2, h3, h4⟩
set_option maxRecDepth 100000 in
set_option maxHeartbeats 8000000 in
theorem snidxC (g1 g2 : Nat) (p : SnX → Bool) (a : Option Addr) (n c : Nat) (L : List SnX) (w : World) (h : Ls snE w a n c L)
    (hc : ∀ (x : SnX) (w' : World), Below w.heap.size w w' → Calls Tryz.prog 76 #[.agg x.cells.toArray, .pointer (some ⟨g1, 0, none⟩), .pointer (some ⟨g2, 0, none⟩)] w' fun e w'' => e = .returned (.bool (p x)) ∧ Below w'.heap.size w' w'') :
    Calls Tryz.prog 75 #[.slice a n c, .func (.func 76) #[] #[.pointer (some ⟨g1, 0, none⟩), .pointer (some ⟨g2, 0, none⟩)]] w fun x w' => ∃ z : Int, x = .returned (.int .i64 z) ∧ Below w.heap.size w w' ∧ IxM p L z := by
  have H := Lib.hid h
  have HCC := Lib.hid hc
  have hm := h.hmax
  have hle := h.hle
  have SZ := Lib.hid sn_size
  clear h hc
  go_enter Tryz.func75, Tryz.ntmps75
  go_wp2_with fail
  go_loopw [8] (fun i wr => ∃ k : Nat, i = .int .i64 (k : Int) ∧ k ≤ n ∧ Hid (∀ i, i < k → ∀ x, L[i]? = some x → p x = false) ∧ Hid (Below w.heap.size w wr)) (fun i _ => n - (intOf i).toNat)
  case atStart => exact ⟨0, rfl, Nat.zero_le _, Lib.hid (fun i h => absurd h (by omega)), Lib.hid (Below.refl _ _)⟩
  case round =>
    obtain ⟨k, rfl, hk, HP, B⟩ := hrel
    by_cases hlt : k < n
    · obtain ⟨b, off, x, rfl, hx, hcell, -⟩ := H.out.at snOk B.out k hlt
      have HC := Lib.hid (HCC.out x wr B.out)
      obtain ⟨q, hq⟩ : ∃ q, p x = q := ⟨_, rfl⟩
      rw [hq] at HC
      have HQ := Lib.hid hq
      have HX := Lib.hid hx
      obtain ⟨⟨xs, xn, xb, xt, xk, P⟩, xa, xm, xc⟩ := x
      have XC := Lib.hid hcell
      have g1 : (0 : Int) ≤ (k : Int) := by omega
      have g2 : (k : Int) < (n : Int) := by omega
      clear hx hcell hq
      cases q
      · go_wp2_with (first
          | ((with_reducible refine load_cells (o := ⟨some 15, _, _, _, _, _⟩) rfl _ _ rfl b (off + k * 6) ?_ (snC xs xn xb xt xk xa xm xc) _ XC.out Tryz.underlying45 rfl ?_ ?_); (focus go_simp); (focus (exact SZ.out)))
          | (go_at_call 76; (with_reducible refine HC.out.mono ?_); rintro x w5 ⟨rfl, hb5⟩; have B5 := Lib.hid (B.out.trans (hb5.mono B.out.size)); clear hb5))
        go_roundw
        case rel =>
          refine ⟨k + 1, vint (by omega), by omega, Lib.hid ?_, B5⟩
          intro i hi x hx
          by_cases h : i < k
          · exact HP.out i h x hx
          · obtain rfl : i = k := by omega
            rw [HX.out] at hx; injection hx with hx; subst hx; exact HQ.out
        case measure => simp [intOf]; omega
      · go_wp2_with (first
          | ((with_reducible refine load_cells (o := ⟨some 15, _, _, _, _, _⟩) rfl _ _ rfl b (off + k * 6) ?_ (snC xs xn xb xt xk xa xm xc) _ XC.out Tryz.underlying45 rfl ?_ ?_); (focus go_simp); (focus (exact SZ.out)))
          | (go_at_call 76; (with_reducible refine HC.out.mono ?_); rintro x w5 ⟨rfl, hb5⟩; have B5 := Lib.hid (B.out.trans (hb5.mono B.out.size)); clear hb5))
        go_ret
        exact ⟨(k : Int), rfl, B5.out, .inr ⟨k, _, rfl, HX.out, HQ.out, HP.out⟩⟩
    · obtain rfl : n = k := by omega
      go_wp2_with fail
      go_ret
      exact ⟨-1, rfl, B.out, .inl ⟨rfl, fun i x hx => HP.out i (by have := (List.getElem?_eq_some_iff.1 hx).1; rw [H.out.hlen] at this; exact this) x hx⟩⟩
set_option maxRecDepth 100000 in
set_option maxHeartbeats 8000000 in
theorem snidxA (g1 : Nat) (p : SnX → Bool) (a : Option Addr) (n c : Nat) (L : List SnX) (w : World) (h : Ls snE w a n c L)
    (hc : ∀ (x : SnX) (w' : World), Below w.heap.size w w' → Calls Tryz.prog 57 #[.agg x.cells.toArray, .pointer (some ⟨g1, 0, none⟩)] w' fun e w'' => e = .returned (.bool (p x)) ∧ Below w'.heap.size w' w'') :
    Calls Tryz.prog 75 #[.slice a n c, .func (.func 57) #[] #[.pointer (some ⟨g1, 0, none⟩)]] w fun x w' => ∃ z : Int, x = .returned (.int .i64 z) ∧ Below w.heap.size w w' ∧ IxM p L z := by
  have H := Lib.hid h
  have HCC := Lib.hid hc
  have hm := h.hmax
  have hle := h.hle
  have SZ := Lib.hid sn_size
  clear h hc
  go_enter Tryz.func75, Tryz.ntmps75
  go_wp2_with fail
  go_loopw [8] (fun i wr => ∃ k : Nat, i = .int .i64 (k : Int) ∧ k ≤ n ∧ Hid (∀ i, i < k → ∀ x, L[i]? = some x → p x = false) ∧ Hid (Below w.heap.size w wr)) (fun i _ => n - (intOf i).toNat)
  case atStart => exact ⟨0, rfl, Nat.zero_le _, Lib.hid (fun i h => absurd h (by omega)), Lib.hid (Below.refl _ _)⟩
  case round =>
    obtain ⟨k, rfl, hk, HP, B⟩ := hrel
    by_cases hlt : k < n
    · obtain ⟨b, off, x, rfl, hx, hcell, -⟩ := H.out.at snOk B.out k hlt
      have HC := Lib.hid (HCC.out x wr B.out)
      obtain ⟨q, hq⟩ : ∃ q, p x = q := ⟨_, rfl⟩
      rw [hq] at HC
      have HQ := Lib.hid hq
      have HX := Lib.hid hx
      obtain ⟨⟨xs, xn, xb, xt, xk, P⟩, xa, xm, xc⟩ := x
      have XC := Lib.hid hcell
      have g1 : (0 : Int) ≤ (k : Int) := by omega
      have g2 : (k : Int) < (n : Int) := by omega
      clear hx hcell hq
      cases q
      · go_wp2_with (first
          | ((with_reducible refine load_cells (o := ⟨some 15, _, _, _, _, _⟩) rfl _ _ rfl b (off + k * 6) ?_ (snC xs xn xb xt xk xa xm xc) _ XC.out Tryz.underlying45 rfl ?_ ?_); (focus go_simp); (focus (exact SZ.out)))
          | (go_at_call 57; (with_reducible refine HC.out.mono ?_); rintro x w5 ⟨rfl, hb5⟩; have B5 := Lib.hid (B.out.trans (hb5.mono B.out.size)); clear hb5))
        go_roundw
        case rel =>
          refine ⟨k + 1, vint (by omega), by omega, Lib.hid ?_, B5⟩
          intro i hi x hx
          by_cases h : i < k
          · exact HP.out i h x hx
          · obtain rfl : i = k := by omega
            rw [HX.out] at hx; injection hx with hx; subst hx; exact HQ.out
        case measure => simp [intOf]; omega
      · go_wp2_with (first
          | ((with_reducible refine load_cells (o := ⟨some 15, _, _, _, _, _⟩) rfl _ _ rfl b (off + k * 6) ?_ (snC xs xn xb xt xk xa xm xc) _ XC.out Tryz.underlying45 rfl ?_ ?_); (focus go_simp); (focus (exact SZ.out)))
          | (go_at_call 57; (with_reducible refine HC.out.mono ?_); rintro x w5 ⟨rfl, hb5⟩; have B5 := Lib.hid (B.out.trans (hb5.mono B.out.size)); clear hb5))
        go_ret
        exact ⟨(k : Int), rfl, B5.out, .inr ⟨k, _, rfl, HX.out, HQ.out, HP.out⟩⟩
    · obtain rfl : n = k := by omega
      go_wp2_with fail
      go_ret
      exact ⟨-1, rfl, B.out, .inl ⟨rfl, fun i x hx => HP.out i (by have := (List.getElem?_eq_some_iff.1 hx).1; rw [H.out.hlen] at this; exact this) x hx⟩⟩
theorem idxcall (sp nm : ByteArray) (g1 g2 : Nat) (a : Option Addr) (n c : Nat) (L : List Sn) (w : World) (h : SnL w a n c L) (h1 : Row w g1 9 [.string sp]) (h2 : Row w g2 9 [.string nm]) :
    Calls Tryz.prog 75 #[.slice a n c, .func (.func 76) #[] #[.pointer (some ⟨g1, 0, none⟩), .pointer (some ⟨g2, 0, none⟩)]] w fun x w' => x = .returned (.int .i64 (ixM sp nm L)) ∧ Below w.heap.size w w' := by
  obtain ⟨X, hX, e⟩ := h
  refine (snidxC g1 g2 (fun x => callM sp nm x.s) a n c X w hX (fun x w' hb => pcalled1 sp nm x g1 g2 w' (h1.below hb h1.lt) (h2.below hb h2.lt))).mono ?_
  rintro x w' ⟨z, rfl, hb, hz⟩
  exact ⟨by rw [(hz.map e).uniq (ixM_is sp nm L)], hb⟩
theorem idxabove (y : SnX) (g1 : Nat) (a : Option Addr) (n c : Nat) (L : List Sn) (w : World) (h : SnL w a n c L) (h1 : Row w g1 45 y.cells) :
    Calls Tryz.prog 75 #[.slice a n c, .func (.func 57) #[] #[.pointer (some ⟨g1, 0, none⟩)]] w fun x w' => x = .returned (.int .i64 (axM y.s L)) ∧ Below w.heap.size w w' := by
  obtain ⟨X, hX, e⟩ := h
  refine (snidxA g1 (fun x => belowM y.s x.s) a n c X w hX (fun x w' hb => padd1 y x g1 w' (h1.below hb h1.lt))).mono ?_
  rintro x w' ⟨z, rfl, hb, hz⟩
  exact ⟨by rw [(hz.map e).uniq (axM_is y.s L)], hb⟩
theorem ixM_ge (sp nm : ByteArray) (L : List Sn) : decide (0 ≤ ixM sp nm L) = hasM sp nm L := by
  unfold ixM; cases hasM sp nm L <;> simp
set_option maxRecDepth 100000 in
set_option maxHeartbeats 4000000 in
theorem pcont (sp nm : ByteArray) (g1 g2 : Nat) (a : Option Addr) (n c : Nat) (L : List Sn) (w : World) (h : SnL w a n c L) (h1 : Row w g1 9 [.string sp]) (h2 : Row w g2 9 [.string nm]) :
    Calls Tryz.prog 54 #[.slice a n c, .func (.func 76) #[] #[.pointer (some ⟨g1, 0, none⟩), .pointer (some ⟨g2, 0, none⟩)]] w fun x w' => x = .returned (.bool (hasM sp nm L)) ∧ Below w.heap.size w w' := by
  have HI := Lib.hid (idxcall sp nm g1 g2 a n c L w h h1 h2)
  have HG := Lib.hid (ixM_ge sp nm L)
  generalize ixM sp nm L = z at HI HG
  clear h h1 h2
  go_enter Tryz.func54, Tryz.ntmps54
  go_wp2_with (first
    | (go_at_call 75; (with_reducible refine HI.out.mono ?_); rintro x w5 ⟨rfl, hb5⟩; have B5 := Lib.hid hb5; clear hb5))
  go_ret
  exact ⟨one (vbool (by rw [← HG.out]; first | done | rfl | simp)), B5.out⟩
end Go.Proofs.YtjolmjbhpokgmaaGreat.W
