/- LAYER 20 (manifest): the law ManifestChanges, for texts that are not too long. LAYER 20 (manifest): snapshots that come in, bound by what is read; the law ManifestChanges up to sizes. -/
import Derived.Test.YtpcpgodnhamdiaaMfAe
import Derived.Test.YtpcpgodnhamdiaaMfY
import Derived.Test.YtpcpgodnhamdiaaMfAa
import Derived.Test.YtpcpgodnhamdiaaMfK
import Derived.Test.YtpcpgodnhamdiaaMfX
import Derived.Test.YtpcpgodnhamdiaaMfR
import Derived.Test.YtpcpgodnhamdiaaMfSm
set_option linter.unusedSimpArgs false
set_option linter.unusedVariables false
namespace Go.Proofs.Ytpcpgodnhamdiaa.W
open Go Go.ChangeShapes Go.WideShapes Go.ChangeAt Go.RowKit
open Go.Proofs.Ytpcpgodnhamdiaa.P (enc dec)
open Go.Proofs.Ytpcpgodnhamdiaa.S

theorem row_neM {w : World} {g g' : Nat} {t t' : TypeId} {C C' : List Value} (h : Row w g t C) (h' : Row w g' t' C') (ht : t ≠ t') : g ≠ g' := by
  rintro rfl
  unfold Row at h h'
  rw [h] at h'
  simp at h'
  exact ht h'.2
/-- pieces that may be written to: in a row of the call's own -/
def PwX (w : World) (base : Nat) (x : SnX) : Prop := x.m = 0 ∨ ∃ (g : Nat) (C : List Value), x.a = some ⟨g, 0, none⟩ ∧ base ≤ g ∧ Row w g 37 C ∧ x.m * 2 ≤ C.length
theorem OwnX.pw {w : World} {base : Nat} {x : SnX} (h : OwnX w base x) : PwX w base x := by
  obtain ⟨-, h2⟩ := h.own
  rcases h2 with ⟨hv, -⟩ | ⟨g, cap, cur, hv, hg, hh, h3, -, h4, -⟩
  · injection hv with e1 e2 e3
    exact .inl e2
  · injection hv with e1 e2 e3
    refine .inr ⟨g, cur.toList, e1, hg, ?_, ?_⟩
    · unfold Row; rw [hh]
    · have e4 : cur.size = cap * 2 := h4
      rw [Array.length_toList, e4, e2]
      exact Nat.mul_le_mul_right 2 h3
theorem PwX.below {w w' : World} {base : Nat} {x : SnX} (h : PwX w base x) (hb : Below w.heap.size w w') : PwX w' base x := by
  rcases h with h | ⟨g, C, h1, h2, h3, h4⟩
  · exact .inl h
  · exact .inr ⟨g, C, h1, h2, h3.below hb h3.lt, h4⟩
theorem PwX.upd {w w' : World} {base g' : Nat} {C' : List Value} {x : SnX} (h : PwX w base x) (hl : ∀ C, Row w g' 37 C → C.length = C'.length) (hr : Row w' g' 37 C') (hu : Upd w w' g') : PwX w' base x := by
  rcases h with h | ⟨g, C, h1, h2, h3, h4⟩
  · exact .inl h
  · by_cases e : g = g'
    · subst e
      exact .inr ⟨g, C', h1, h2, hr, by rw [← hl C h3]; exact h4⟩
    · exact .inr ⟨g, C, h1, h2, h3.upd hu e, h4⟩
theorem row_len {w : World} {g : Nat} {t : TypeId} {C C' : List Value} (h : Row w g t C) (h' : Row w g t C') : C = C' := by
  unfold Row at h h'
  rw [h] at h'
  simpa using h'
theorem SnO.y {w : World} {base : Nat} {a : Option Addr} {n c : Nat} {N : List Sn} (h : SnO w base (.slice a n c) N) (hn : N.length = n) : ∃ Y : List SnX, Ls snE w a n c Y ∧ Y.map (·.s) = N ∧ ∀ y ∈ Y, OwnX w base y := by
  obtain ⟨Y, h1, h2, h3⟩ := h
  exact ⟨Y, lso_out snOk h1 (by rw [← hn, ← h2, List.length_map]) (fun x hx => (h3 x hx).fit), h2, h3⟩
theorem SnO.z {w : World} {base : Nat} {v : Value} {N : List Sn} (h : SnO w base v N) : ∃ (Z : List SnX) (n : Nat) (a : Option Addr) (c : Nat), v = .slice a n c ∧ Ls snE w a n c Z ∧ (∀ x ∈ Z, PwX w base x) ∧ (∀ b off, a = some ⟨b, off, none⟩ → ∃ C, Row w b 25 C) := by
  obtain ⟨Z, h1, h2, h3⟩ := h
  obtain ⟨a, c, hv, hl, ho⟩ := h1.ls snOk (fun x hx => (h3 x hx).fit)
  exact ⟨Z, _, a, c, hv, hl, fun x hx => (h3 x hx).pw, fun b off e => lso_row h1 (ho b off e).2⟩
set_option maxRecDepth 100000 in
set_option maxHeartbeats 32000000 in
theorem changes_of20 (a : Option Addr) (n c : Nat) (X : List SnX) (y : SnX) (qs qn : ByteArray) (now : Int) (w : World) (h : Ls snE w a n c X) (hy : y.fit w) (hnm : ∀ x ∈ X, x.s.sp.size ≤ 2000000 ∧ x.s.nm.size ≤ 2000000 ∧ ∀ p ∈ x.s.P, p.sum.size ≤ 2000000) :
    Calls Try.prog 3 #[.slice a n c, .agg y.cells.toArray, .string qs, .string qn, .int .i64 now] w fun x w' => x = .returned (.bool true) ∧ Below w.heap.size w w' := by
  obtain ⟨L, hL⟩ : ∃ L, X.map (·.s) = L := ⟨_, rfl⟩
  have HS0 := Lib.hid (show SnL w a n c L from ⟨X, h, hL⟩)
  have hln : L.length = n := by rw [← hL, List.length_map, h.hlen]
  have HY := Lib.hid (fun w' (hb : Below w.heap.size w w') => snOk.mono y _ _ hy hb)
  have hyl := hy.P.hlen
  have hym := hy.P.hmax
  have hyc := hy.P.hle
  obtain ⟨bf, hbf⟩ : ∃ b, fewM L = b := ⟨_, rfl⟩
  have HFEW := Lib.hid (fun w' (hb : Below w.heap.size w w') => few20 a n c L w' (HS0.out.mono hb))
  rw [hbf] at HFEW
  have SZ := Lib.hid sn_size
  have MZ := Lib.hid sn_zero
  obtain ⟨⟨sp, nm, by1, ti, ke, PL⟩, pa, pm, pc⟩ := y
  dsimp only at hyl hym hyc
  cases bf
  case false =>
    clear h hy hL hln hbf hnm
    go_enter Try.func3, Try.ntmps3
    go_wp2_with (first
      | ((with_reducible refine box_row (o := ⟨some 6, _, _, _, _, _⟩) rfl _ _ rfl (snC sp nm by1 ti ke pa pm pc) rfl ?_); intro w1 hr hb hz; have R1 := Lib.hid hr; have B1 := Lib.hid hb; clear hr hb hz)
      | (go_at_call 6; (with_reducible refine (HFEW.out w1 B1.out).mono ?_); rintro x w2 ⟨rfl, hb⟩; have R2 := Lib.hid (R1.out.below hb R1.out.lt); have B2 := Lib.hid (B1.out.trans (hb.mono B1.out.size)); obtain ⟨c0, c1, c2, c3, c4, c5⟩ := R2.out.h6s; clear hb)
      | (go_at_call 7; (with_reducible refine (awake20 _).mono ?_); rintro x wz ⟨rfl, hb⟩; have BZ := Lib.hid (B2.out.trans (hb.mono B2.out.size)); clear hb))
    go_ret
    exact ⟨by first | rfl | exact one (vbool (by simp)), BZ.out⟩
  by_cases hp20 : pm ≤ 20
  rotate_left
  · have g20 : (20 : Int) < (pm : Int) := by omega
    clear h hy hL hln hbf hnm
    go_enter Try.func3, Try.ntmps3
    go_wp2_with (first
      | ((with_reducible refine box_row (o := ⟨some 6, _, _, _, _, _⟩) rfl _ _ rfl (snC sp nm by1 ti ke pa pm pc) rfl ?_); intro w1 hr hb hz; have R1 := Lib.hid hr; have B1 := Lib.hid hb; clear hr hb hz)
      | (go_at_call 6; (with_reducible refine (HFEW.out w1 B1.out).mono ?_); rintro x w2 ⟨rfl, hb⟩; have R2 := Lib.hid (R1.out.below hb R1.out.lt); have B2 := Lib.hid (B1.out.trans (hb.mono B1.out.size)); obtain ⟨c0, c1, c2, c3, c4, c5⟩ := R2.out.h6s; clear hb)
      | (go_at_call 7; (with_reducible refine (awake20 _).mono ?_); rintro x wz ⟨rfl, hb⟩; have BZ := Lib.hid (B2.out.trans (hb.mono B2.out.size)); clear hb))
    go_ret
    exact ⟨by first | rfl | exact one (vbool (by simp)), BZ.out⟩
  have g20 : ¬ (20 : Int) < (pm : Int) := by omega
  obtain ⟨hn30, hfp⟩ := fewM_few hbf
  have hP20 : PL.length ≤ 1000 := by omega
  have hsh : ∀ x ∈ X, x.short := fun x hx => by
    obtain ⟨h1, h2, h3⟩ := hnm x hx
    have hm : x.s ∈ L := by rw [← hL]; exact List.mem_map_of_mem hx
    have h4 : x.s.P.length ≤ 20 := by
      unfold fewM at hbf
      simp only [Bool.and_eq_true, decide_eq_true_eq, List.all_eq_true] at hbf
      exact hbf.2 _ hm
    exact ⟨h1, h2, by omega, h3⟩
  obtain ⟨T, hT⟩ : ∃ T, enc n ++ X.flatMap codeX = T := ⟨_, rfl⟩
  have HPUT := Lib.hid (fun w' (hb : Below w.heap.size w w') => uputsn none 0 0 [] a n c X w' rd_nil_mf (by omega) (h.mono snOk hb) (by omega) hsh)
  simp only [List.nil_append, hT] at HPUT
  obtain ⟨M, hM⟩ : ∃ M, (addM L ⟨sp, nm, by1, ti, ke, PL⟩).1 = M := ⟨_, rfl⟩
  obtain ⟨e, he⟩ : ∃ e, (addM L ⟨sp, nm, by1, ti, ke, PL⟩).2 = e := ⟨_, rfl⟩
  obtain ⟨N, b, f, hrm⟩ : ∃ x y z, removeM L qs qn now = (x, y, z) := ⟨_, _, _, rfl⟩
  obtain ⟨kM, hkM⟩ : ∃ k, M.length = k := ⟨_, rfl⟩
  obtain ⟨kN, hkN⟩ : ∃ k, N.length = k := ⟨_, rfl⟩
  have HAD := Lib.hid (fun w' (hb : Below w.heap.size w w') => pmadd ⟨⟨sp, nm, by1, ti, ke, PL⟩, pa, pm, pc⟩ a n c L w' (HS0.out.mono hb) hfp (by omega) (HY.out w' hb) hP20)
  have HUD := Lib.hid (fun w' (hb : Below w.heap.size w w') => umadd ⟨⟨sp, nm, by1, ti, ke, PL⟩, pa, pm, pc⟩ a n c L w' (HS0.out.mono hb) hfp (by omega) (HY.out w' hb) hP20)
  dsimp only at HAD HUD
  simp only [hM, he] at HAD HUD
  have HRM := Lib.hid (fun w' (hb : Below w.heap.size w w') => pmremove qs qn now a n c L w' (HS0.out.mono hb) hfp (by omega))
  have HUR := Lib.hid (fun w' (hb : Below w.heap.size w w') => umremove qs qn now a n c L w' (HS0.out.mono hb) hfp (by omega))
  simp only [hrm] at HRM HUR
  have hMl : kM ≤ 31 := by
    rw [← hkM, ← hM]
    have h1 := ahead_le ⟨sp, nm, by1, ti, ke, PL⟩ L
    unfold addM
    repeat' split
    all_goals first | (dsimp only; omega) | (simp only [List.length_append, List.length_take, List.length_drop, List.length_cons, List.length_nil]; omega)
  have hNl : kN ≤ 31 := by
    rw [← hkN]
    have h1 : N = (removeM L qs qn now).1 := by rw [hrm]
    rw [h1]
    unfold removeM
    repeat' split
    all_goals first | (dsimp only; omega) | (simp only [List.length_append, List.length_take, List.length_drop]; omega)
  obtain ⟨ck, hck⟩ : ∃ b, checkM L = b := ⟨_, rfl⟩
  have HC1 := Lib.hid (fun w' (hb : Below w.heap.size w w') => mcheck a n c L w' (HS0.out.mono hb))
  have HC2 := Lib.hid (fun w' (hb : Below w.heap.size w w') => umcheck a n c L w' (HS0.out.mono hb))
  rw [hck] at HC1 HC2
  have HKM := Lib.hid hkM
  have HKN := Lib.hid hkN
  have HS1 := Lib.hid (fun a1 n1 c1 a2 n2 c2 w' (h1 : SnL w' a1 n1 c1 M) (h2 : SnL w' a2 n2 c2 M) => usames a1 a2 n1 c1 n2 c2 M w' h1 h2)
  have HS2 := Lib.hid (fun a1 n1 c1 a2 n2 c2 w' (h1 : SnL w' a1 n1 c1 N) (h2 : SnL w' a2 n2 c2 N) => usames a1 a2 n1 c1 n2 c2 N w' h1 h2)
  have HML := Lib.hid (show kM + kN ≤ 62 by omega)
  clear h hy hL hln hbf hnm hsh hT hM he hrm hkM hkN hck hfp hMl hNl
  go_enter Try.func3, Try.ntmps3
  go_wp2_with (first
    | ((with_reducible refine box_row (o := ⟨some 6, _, _, _, _, _⟩) rfl _ _ rfl (snC sp nm by1 ti ke pa pm pc) rfl ?_); intro w1 hr hb hz; have R1 := Lib.hid hr; have B1 := Lib.hid hb; clear hr hb hz)
    | (go_at_call 6; (with_reducible refine (HFEW.out w1 B1.out).mono ?_); rintro x w2 ⟨rfl, hb⟩; have R2 := Lib.hid (R1.out.below hb R1.out.lt); have B2 := Lib.hid (B1.out.trans (hb.mono B1.out.size)); obtain ⟨c0, c1, c2, c3, c4, c5⟩ := R2.out.h6s; clear hb)
    | (go_at_call 8; (with_reducible refine (HPUT.out w2 B2.out).mono ?_); rintro x w3 ⟨y3, m3, d3, rfl, hrd, hm3, hb⟩; have K3 := Lib.hid hrd; have E3 := Lib.hid hm3; have R3 := Lib.hid (R2.out.below hb R2.out.lt); have B3 := Lib.hid (B2.out.trans (hb.mono B2.out.size)); have D3 := Lib.hid (Below.refl w3.heap.size w3); clear hrd hm3 hb c0 c1 c2 c3 c4 c5)
    | ((with_reducible refine load_row (o := ⟨some 40, _, _, _, _, _⟩) rfl _ _ rfl w.heap.size ?_ _ (snC sp nm by1 ti ke pa pm pc) _ R3.out Try.underlying25 rfl ?_ ?_); (focus go_simp); (focus (exact SZ.out)))
    | (go_at_call 9; (with_reducible refine (HAD.out w3 B3.out).mono ?_); rintro x w4 ⟨v4, rfl, hO, hb⟩; obtain ⟨a4, c4', hv4, hsl⟩ := hO.snl; rw [HKM.out] at hv4 hsl; subst hv4; have O4 := Lib.hid hO; have M4 := Lib.hid hsl; have R4 := Lib.hid (R3.out.below hb R3.out.lt); have D4 := Lib.hid (D3.out.trans (hb.mono D3.out.size)); have B4 := Lib.hid (B3.out.trans (hb.mono B3.out.size)); clear hO hsl hb)
    | ((with_reducible refine load_row (o := ⟨some 46, _, _, _, _, _⟩) rfl _ _ rfl w.heap.size ?_ _ (snC sp nm by1 ti ke pa pm pc) _ R4.out Try.underlying25 rfl ?_ ?_); (focus go_simp); (focus (exact SZ.out)))
    | (go_at_call 10; (with_reducible refine (HUD.out w4 B4.out).mono ?_); rintro x w5 ⟨v5, rfl, hO, hb⟩; obtain ⟨a5, c5', hv5, hsl⟩ := hO.snl; rw [HKM.out] at hv5 hsl; subst hv5; have M5 := Lib.hid hsl; have O5 := Lib.hid (O4.out.kept hb); have M45 := Lib.hid (M4.out.mono hb); have D5 := Lib.hid (D4.out.trans (hb.mono D4.out.size)); have B5 := Lib.hid (B4.out.trans (hb.mono B4.out.size)); clear hO hsl hb)
    | (go_at_call 11; (with_reducible refine (HRM.out w5 B5.out).mono ?_); rintro x w6 ⟨v6, rfl, hO, hb⟩; obtain ⟨a6, c6, hv6, hsl⟩ := hO.snl; rw [HKN.out] at hv6 hsl; subst hv6; have Q6 := Lib.hid (hO.base D5.out.size); have N6 := Lib.hid hsl; have O6 := Lib.hid (O5.out.kept hb); have M56 := Lib.hid (M5.out.mono hb); have M46 := Lib.hid (M45.out.mono hb); have D6 := Lib.hid (D5.out.trans (hb.mono D5.out.size)); have B6 := Lib.hid (B5.out.trans (hb.mono B5.out.size)); clear hO hsl hb)
    | (go_at_call 12; (with_reducible refine (HUR.out w6 B6.out).mono ?_); rintro x w7 ⟨v7, rfl, hO, hb⟩; obtain ⟨a7, c7, hv7, hsl⟩ := hO.snl; rw [HKN.out] at hv7 hsl; subst hv7; have N7 := Lib.hid hsl; have Q7 := Lib.hid (Q6.out.kept hb); have N67 := Lib.hid (N6.out.mono hb); have O7 := Lib.hid (O6.out.kept hb); have M57 := Lib.hid (M56.out.mono hb); have M47 := Lib.hid (M46.out.mono hb); have D7 := Lib.hid (D6.out.trans (hb.mono D6.out.size)); have B7 := Lib.hid (B6.out.trans (hb.mono B6.out.size)); clear hO hsl hb)
    | (go_at_call 13; (with_reducible refine (HS1.out _ _ _ _ _ _ w7 M47.out M57.out).mono ?_); rintro x w8 ⟨rfl, hb⟩; have N8 := Lib.hid (N7.out.mono hb); have N68 := Lib.hid (N67.out.mono hb); have Q8 := Lib.hid (Q7.out.kept hb); have O8 := Lib.hid (O7.out.kept hb); have D8 := Lib.hid (D7.out.trans (hb.mono D7.out.size)); have B8 := Lib.hid (B7.out.trans (hb.mono B7.out.size)); clear hb)
    | (go_at_call 13; (with_reducible refine (HS2.out _ _ _ _ _ _ w8 N68.out N8.out).mono ?_); rintro x w9 ⟨rfl, hb⟩; have Q9 := Lib.hid (Q8.out.kept hb); have O9 := Lib.hid (O8.out.kept hb); have D9 := Lib.hid (D8.out.trans (hb.mono D8.out.size)); have B9 := Lib.hid (B8.out.trans (hb.mono B8.out.size)); clear hb)
    | (go_at_call 14; (with_reducible refine (HC1.out w9 B9.out).mono ?_); rintro x w10 ⟨rfl, hb⟩; have Q10 := Lib.hid (Q9.out.kept hb); have O10 := Lib.hid (O9.out.kept hb); have D10 := Lib.hid (D9.out.trans (hb.mono D9.out.size)); have B10 := Lib.hid (B9.out.trans (hb.mono B9.out.size)); clear hb)
    | (go_at_call 15; (with_reducible refine (HC2.out w10 B10.out).mono ?_); rintro x w11 ⟨rfl, hb⟩; have Q11 := Lib.hid (Q10.out.kept hb); have O11 := Lib.hid (O10.out.kept hb); have D11 := Lib.hid (D10.out.trans (hb.mono D10.out.size)); have B11 := Lib.hid (B10.out.trans (hb.mono B10.out.size)); have QY := Lib.hid (SnO.y Q11.out HKN.out); clear hb)
    | (at_builtin; obtain ⟨Y, hY1, hY2, hY3⟩ := QY.out; (with_reducible refine append_sno rfl _ _ rfl w3.heap.size (.slice a4 kM c4') M ?_ O11.out a6 kN c6 Y ?_ hY1 hY3 ?_ D11.out.size ?_); (focus (first | (go_simp; done) | (go_simp; rfl))); (focus (first | (go_simp; done) | (go_simp; rfl))); (focus (have := HKM.out; have := HML.out; omega)); intro v12 w12 hO hb hg; obtain ⟨Z, nz, a12, c12, hv12, hZ1, hZ2, hZ3⟩ := SnO.z hO; subst hv12; have LZ := Lib.hid hZ1; have PZ := Lib.hid hZ2; have TZ := Lib.hid hZ3; have D12 := Lib.hid (D11.out.trans hb); clear hO hb hg hY1 hY2 hY3 hZ1 hZ2 hZ3))
  have zm := LZ.out.hmax
  have zl := LZ.out.hle
  clear R1 R2 R3 R4 O4 O5 O6 O7 O8 O9 O10 O11 Q6 Q7 Q8 Q9 Q10 Q11 QY M4 M5 M45 M46 M47 M56 M57 N6 N67 N68 N7 N8 B1 B2 B4 B5 B6 B7 B8 B9 B10 B11 D4 D5 D6 D7 D8 D9 D10 D11 HAD HUD HRM HUR HC1 HC2 HS1 HS2 HFEW Y
  go_loopw [102] (fun i wr => ∃ k : Nat, i = .int .i64 (k : Int) ∧ k ≤ nz ∧ Hid (∀ b off, a12 = some ⟨b, off, none⟩ → wr.heap[b]? = w12.heap[b]?) ∧ Hid (∀ x ∈ Z, PwX wr w3.heap.size x) ∧ Hid (Below w3.heap.size w3 wr)) (fun i _ => nz - (intOf i).toNat)
  case atStart => exact ⟨0, rfl, Nat.zero_le _, Lib.hid (fun _ _ _ => rfl), PZ, D12⟩
  case round =>
    obtain ⟨k, rfl, hk, G, PW, DW⟩ := hrel
    by_cases hlt : k < nz
    · obtain ⟨b0, off, x, rfl, hx, hcell, hfx⟩ := LZ.out.at snOk (Below.refl _ _) k hlt
      have hgb := G.out b0 off rfl
      have hmem := List.mem_of_getElem? hx
      have hcl := fun j v (hj : (snE.cells x)[j]? = some v) => (World.cell?_of_block (a := ⟨b0, off + k * 6 + j, none⟩) hgb).trans (hcell j v hj)
      obtain ⟨CT, hCT⟩ := TZ.out b0 off rfl
      have HMEM := Lib.hid hmem
      have RT := Lib.hid (show Row wr b0 25 CT from hgb.trans hCT)
      have xm1 := hfx.P.hmax
      have xm2 := hfx.P.hle
      clear hfx
      obtain ⟨⟨xs, xn, xb, xt, xk, P⟩, xa, xm, xc⟩ := x
      dsimp only at xm1 xm2
      have XC := Lib.hid hcl
      have g1 : (0 : Int) ≤ (k : Int) := by omega
      have g2 : (k : Int) < (nz : Int) := by omega
      clear hx hcell hgb hmem hcl hCT
      go_wp2_with (first
        | ((with_reducible refine load_cells (o := ⟨some 105, _, _, _, _, _⟩) rfl _ _ rfl b0 (off + k * 6) ?_ (snC xs xn xb xt xk xa xm xc) _ XC.out Try.underlying25 rfl ?_ ?_); (focus go_simp); (focus (exact SZ.out)))
        | ((with_reducible refine alloc_row (o := ⟨some 24, _, _, _, _, _⟩) rfl _ rfl _ MZ.out ?_); intro w5 hr hb hz; have R5 := Lib.hid hr; have DA := Lib.hid hb; clear hr hb hz)
        | ((with_reducible refine store_row (o := ⟨none, _, _, _, _, _⟩) rfl _ (.tmp 24) _ rfl wr.heap.size (snC xs xn xb xt xk xa xm xc) ?_ ?_ 25 _ R5.out ?_ ?_ ?_ ?_); (focus go_simp); (focus (first | (go_simp; done) | (go_simp; rfl))); (focus (exact SZ.out)); (focus rfl); (focus (exact sn_one _ _ _ _ _ _ _ _)); intro w6 hr hu; have R6 := Lib.hid hr; have DB := Lib.hid (DA.out.trans (hu.below (Nat.le_refl _))); obtain ⟨c0, c1, c2, c3, c4, c5⟩ := hr.h6s; clear hr hu))
      have RT6 := Lib.hid (RT.out.below DB.out RT.out.lt)
      obtain ⟨g24, hg24⟩ : ∃ g, wr.heap.size = g := ⟨_, rfl⟩
      rw [hg24] at R6 ⊢
      clear hg24
      have G6 := Lib.hid (show ∀ b off', (some (⟨b0, off, none⟩ : Addr)) = some ⟨b, off', none⟩ → w6.heap[b]? = w12.heap[b]? from fun b off' e => by
        have h1 := G.out b off' e
        injection e with e
        injection e with e1 e2
        subst e1
        rw [DB.out.block b0 RT.out.lt]; exact h1)
      have PW6 := Lib.hid (fun x hx => (PW.out x hx).below DB.out)
      have D6 := Lib.hid (DW.out.trans (DB.out.mono DW.out.size))
      have hpx := PW6.out _ HMEM.out
      clear c0 c1 c2 c3 c4 c5
      go_loopw [109] (fun i wq => ∃ j : Nat, i = .int .i64 (j : Int) ∧ j ≤ xm ∧ Hid (∀ b off', (some (⟨b0, off, none⟩ : Addr)) = some ⟨b, off', none⟩ → wq.heap[b]? = w12.heap[b]?) ∧ Hid (∀ x ∈ Z, PwX wq w3.heap.size x) ∧ Hid (Row wq g24 25 (snC xs xn xb xt xk xa xm xc)) ∧ Hid (Row wq b0 25 CT) ∧ Hid (Below w3.heap.size w3 wq)) (fun i _ => xm - (intOf i).toNat)
      case atStart => exact ⟨0, rfl, Nat.zero_le _, G6, PW6, R6, RT6, D6⟩
      case round =>
        obtain ⟨j, rfl, hj, GQ, PQ, RQ, TQ, DQ⟩ := hrel
        obtain ⟨c0, c1, c2, c3, c4, c5⟩ := RQ.out.h6s
        by_cases hjt : j < xm
        · rcases PQ.out _ HMEM.out with h0 | ⟨g, C, h1, h2, h3, h4⟩
          · dsimp only at h0; omega
          · dsimp only at h1 h4
            subst h1
            have PR := Lib.hid h3
            have HB := Lib.hid h2
            have HCL := Lib.hid h4
            have j1 : (0 : Int) ≤ (j : Int) := by omega
            have j2 : (j : Int) < (xm : Int) := by omega
            clear h2 h3 h4 hpx
            go_wp2_with (first
              | ((with_reducible refine store_cell (o := ⟨none, _, _, _, _, _⟩) rfl _ (.tmp 116) _ rfl g (j * 2 + 1) (.int .i64 7) ?_ ?_ rfl rfl 37 _ PR.out ?_ ?_ ?_); (focus (first | (go_simp; done) | (go_simp; simp; done) | (go_simp; rfl))); (focus (first | (go_simp; done) | (go_simp; rfl))); (focus (kernel_rfl)); (focus (have := HCL.out; omega)); intro wS hr hu; have RS := Lib.hid hr; have US := Lib.hid hu; clear hr hu))
            go_roundw
            case rel =>
              have n1 : b0 ≠ g := row_neM TQ.out PR.out (by decide)
              have n2 : g24 ≠ g := row_neM RQ.out PR.out (by decide)
              exact ⟨j + 1, vint (by omega), by omega, Lib.hid (fun b off' e => by
                have h1 := GQ.out b off' e
                injection e with e
                injection e with e1 e2
                subst e1
                rw [US.out.block b0 n1]; exact h1), Lib.hid (fun x hx => (PQ.out x hx).upd (fun C' hC' => by rw [row_len hC' PR.out, List.length_set]) RS.out US.out), Lib.hid (RQ.out.upd US.out n2), Lib.hid (TQ.out.upd US.out n1), Lib.hid (DQ.out.trans (US.out.below HB.out))⟩
            case measure => simp [intOf]; omega
        · obtain rfl : xm = j := by omega
          go_wp2_with fail
          go_roundw
          case rel => exact ⟨k + 1, vint (by omega), by omega, GQ, PQ, DQ⟩
          case measure => simp [intOf]; omega
    · obtain rfl : nz = k := by omega
      have BW := Lib.hid (B3.out.trans (DW.out.mono B3.out.size))
      go_wp2_with (first
        | (go_at_call 8; (with_reducible refine (HPUT.out wr BW.out).mono ?_); rintro x w20 ⟨y20, m20, d20, rfl, hrd, -, hb⟩; have K20 := Lib.hid hrd; have L3 := Lib.hid (K3.out.mono (DW.out.trans (hb.mono DW.out.size))); have B20 := Lib.hid (BW.out.trans (hb.mono BW.out.size)); clear hrd hb)
        | (go_at_call 16; (with_reducible refine (sequal _ _ _ _ _ _ T T w20 K20.out L3.out).mono ?_); rw [decide_eq_true rfl]; rintro z w21 ⟨rfl, hq⟩; have B21 := Lib.hid (B20.out.trans ((hq.below w20.heap.size).mono B20.out.size)); clear hq)
        | (go_at_call 7; (with_reducible refine (awake20 _).mono ?_); rintro x wz ⟨rfl, hb⟩; have BZ := Lib.hid (B21.out.trans (hb.mono B21.out.size)); clear hb))
      go_ret
      exact ⟨by first | rfl | exact one (vbool (by simp)), BZ.out⟩
end Go.Proofs.Ytpcpgodnhamdiaa.W

namespace Go.Proofs.Ytpcpgodnhamdiaa.W
open Go Go.ChangeShapes Go.WideShapes Go.ChangeAt Go.RowKit
open Go.Proofs.Ytpcpgodnhamdiaa.P (enc dec)
open Go.Proofs.Ytpcpgodnhamdiaa.S

theorem law_ManifestChanges (a : Option Addr) (n c : Nat) (X : List SnX) (y : SnX) (qs qn : ByteArray) (now : Int) (w : World) (h : Ls snE w a n c X ∧ ∀ x ∈ X, snSz x ≤ 2000000) (hy : y.fit w) (_ : qs.size ≤ maxLen) (_ : qn.size ≤ maxLen) (_ : (Lit.int .i64 now).wf = true) :
    Calls Try.prog 3 #[.slice a n c, .agg y.cells.toArray, .string qs, .string qn, .int .i64 now] w fun x w' => x = .returned (.bool true) ∧ Below w.heap.size w w' :=
  changes_of20 a n c X y qs qn now w h.1 hy (fun x hx => by
    have h1 := h.2 x hx
    unfold snSz at h1
    exact ⟨by omega, by omega, fun p hp => by have := le_maxP hp; omega⟩)
end Go.Proofs.Ytpcpgodnhamdiaa.W
