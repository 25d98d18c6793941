/- LAYER 9 (disk): the law DiskApart. -/
import Derived.Test.YtlohfalpcppcjaaDpM
set_option linter.unusedSimpArgs false
set_option linter.unusedVariables false
namespace Go.Proofs.Ytlohfalpcppcjaa.W
open Go Go.ChangeShapes Go.WideShapes Go.ChangeAt Go.RowKit

theorem DSt.ap_keep (d : DSt) (s : Int) (l : List UInt8) (hs : 1 ≤ s) : (d.ap s l).most = d.most ∧ (d.ap s l).B.length = d.B.length ∧ (d.ap s l).B.getD 0 [] = d.B.getD 0 [] := by
  unfold DSt.ap
  split
  · refine ⟨rfl, by simp, ?_⟩
    simp only [List.getD_eq_getElem?_getD]
    rw [List.getElem?_set_ne (by omega)]
  · exact ⟨rfl, rfl, rfl⟩
theorem slot12 (x : Int) : 1 ≤ wrap64 (1 + wrap64 ((IntKind.u64.wrap x).tmod 2)) := by
  have h : 0 ≤ IntKind.u64.wrap x := by unfold IntKind.wrap; simp [IntKind.signed, IntKind.bits]; omega
  have h2 := Int.tmod_eq_emod_of_nonneg (b := 2) h
  rw [h2]
  unfold wrap64
  omega
theorem slot0 {d : DSt} (h : d.B.length = 3) : slotV d.B 0 = true := by unfold slotV; rw [h]; rfl

set_option maxRecDepth 100000 in
set_option maxHeartbeats 4000000 in
theorem apart_ok (room : Nat) (la : Option Addr) (len cap : Nat) (D : List DoC) (a : Option Addr) (m c : Nat) (l : List UInt8) (w : World) (h : Dos w la len cap D) (hr : Rd w a m c l) (hold : m ≠ 0 → ∀ b off, a = some ⟨b, off, none⟩ → b < w.heap.size) (hroom : room ≤ 524288) (hm : m ≤ 600) :
    Calls Try.prog 5 #[.int .i64 (room : Int), .slice la len cap, .slice a m c] w fun e w' => e = .returned (.bool true) ∧ Below w.heap.size w w' := by
  have H := Lib.hid h
  have HRD := Lib.hid hr
  have hml := hr.hlen
  have HML := Lib.hid hml
  have DZ := Lib.hid doi_zero
  have DS := Lib.hid doi_size
  have HN := Lib.hid (dnew_ok 3 room w (by decide) (by decide) hroom)
  have hlc := h.hle
  have hcm := h.hmax
  clear h hr hml hold
  go_enter Try.func5, Try.ntmps5
  go_wp2_with (go_at_call 8; refine HN.out.mono ?_; rintro e w1 ⟨p, S0, rfl, hp1, hb1, hs1⟩; have P1 := Lib.hid hp1; have B1 := Lib.hid hb1; have S1 := Lib.hid hs1; clear hp1 hb1 hs1)
  go_loopw [37] (fun i wr => ∃ (k : Nat) (d : DSt) (S : Nat → Prop), i = .int .i64 (k : Int) ∧ k ≤ len ∧ Hid (PD wr p S d) ∧ Hid (Below w.heap.size w wr) ∧ Hid (∀ b, S b → w.heap.size ≤ b) ∧ Hid (d.most = (room : Int) ∧ d.B.length = 3 ∧ d.B.getD 0 [] = [])) (fun i _ => len - (intOf i).toNat)
  case atStart => exact ⟨0, _, _, rfl, Nat.zero_le _, P1, B1, S1, Lib.hid ⟨rfl, rfl, rfl⟩⟩
  case round =>
    obtain ⟨k, d, S, rfl, hk, P, B, NEW, DD⟩ := hrel
    by_cases hlt : k < len
    ·
      obtain ⟨db, doff, hla, hdb, hce⟩ := (H.out.hcells).resolve_left (by omega)
      have hce2 := hce k hlt
      have hkD : k < D.length := by rw [H.out.hlen]; exact hlt
      have hfit : DoW wr (D.getD k default) := DoW.below (H.out.hfit _ (by rw [show D.getD k default = D[k] by simp [hkD]]; exact List.getElem_mem hkD)) B.out
      have hfo := (H.out.hfit (D.getD k default) (by rw [show D.getD k default = D[k] by simp [hkD]]; exact List.getElem_mem hkD))
      obtain ⟨⟨op, slot, nn, ⟨ba, bn, bc⟩, ⟨ka, kn, kc⟩⟩, hdd⟩ : ∃ dd, D.getD k default = dd := ⟨_, rfl⟩
      rw [hdd] at hfit hce2 hfo
      have HCE : Hid (∀ j v, ([.int .i64 op, .int .i64 slot, .int .i64 nn, .slice ba bn bc, .slice ka kn kc] : List Value)[j]? = some v → wr.cell? ⟨db, doff + k * 5 + j, none⟩ = some v) := Lib.hid (fun j v hj => (B.out.cell (p := ⟨db, doff + k * 5 + j, none⟩) hdb).trans (hce2 j v hj))
      have HFIT := Lib.hid hfit
      have hsl : -9223372036854775808 ≤ slot ∧ slot ≤ 9223372036854775807 := hfit.1.2.1
      subst hla
      have HFO : Hid ((bn ≠ 0 → ∀ b off, ba = some ⟨b, off, none⟩ → b < w.heap.size) ∧ (kn ≠ 0 → ∀ b off, ka = some ⟨b, off, none⟩ → b < w.heap.size)) := Lib.hid (by obtain ⟨-, ⟨zb, hzb⟩, ⟨zk, hzk⟩⟩ := hfo; exact ⟨fun h0 => hzb.old h0, fun h0 => hzk.old h0⟩)
      clear hce hce2 hkD hfit hdd hfo
      obtain ⟨zb, hzb⟩ := HFIT.out.2.1
      have RB := Lib.hid (Rd.of_row hzb)
      obtain ⟨lb, hlb⟩ : ∃ lb, ((zb.take bn).map fun n => UInt8.ofNat n.toNat) = lb := ⟨_, rfl⟩
      dsimp only at RB
      rw [hlb] at RB
      clear hzb hlb
      by_cases hdo : k < 30 ∧ bn ≤ 600
      · obtain ⟨hd1, hd2⟩ := hdo
        go_wp2_with (first
          | ((with_reducible refine load_cells (o := ⟨some 41, _, _, _, _, _⟩) rfl _ _ rfl db (doff + k * 5) ?_ [.int .i64 op, .int .i64 slot, .int .i64 nn, .slice ba bn bc, .slice ka kn kc] _ HCE.out Try.underlying33 ?_ ?_ ?_); (focus go_simp); (focus rfl); (focus (exact DS.out)))
          | ((with_reducible refine alloc_row (o := ⟨some 10, _, _, _, _, _⟩) rfl _ rfl _ DZ.out ?_); intro w2 hr2 hb2 hz2; have R2 := Lib.hid hr2; have B2 := Lib.hid hb2; clear hr2 hb2 hz2)
          | ((with_reducible refine store_row (o := ⟨none, _, _, _, _, _⟩) rfl _ (.tmp 10) _ rfl wr.heap.size [.int .i64 op, .int .i64 slot, .int .i64 nn, .slice ba bn bc, .slice ka kn kc] ?_ ?_ 33 _ R2.out ?_ ?_ ?_ ?_); (focus go_simp); (focus go_simp); (focus (exact DS.out)); (focus rfl); (focus (exact doi_one _ _ _ _ _ _ _ _ _)); intro w3 hr3 hu3; have R3 := Lib.hid hr3; have B3 := Lib.hid (B2.out.trans (hu3.below (Nat.le_refl _))); obtain ⟨c0, c1, c2, c3, c4⟩ := hr3.c5; clear hr3 hu3)
          | (go_at_call 13; refine (dappend_any p S d _ ba bn bc lb w3 (P.out.ft (Ft.of_below (F := fun _ => False) B3.out) fun _ _ x => x) (RB.out.mono B3.out)).mono ?_; rintro e w4 ⟨rfl, S', h1, f1, g1⟩; have P4 := Lib.hid h1; have DK := Lib.hid (DSt.ap_keep d _ lb (slot12 slot)); have B4 := Lib.hid (Ft.deep (B.out.trans (B3.out.mono B.out.size)) f1 NEW.out); have NEW4 : Hid (∀ b, S' b → w.heap.size ≤ b) := Lib.hid (fun b hb => (g1 b hb).elim (NEW.out b) fun e => Nat.le_trans (Nat.le_trans B.out.size B3.out.size) e); clear h1 f1 g1 c0 c1 c2 c3 c4))
        go_roundw
        case rel => exact ⟨k + 1, _, S', vint (by omega), by omega, P4, B4, NEW4, Lib.hid ⟨DK.out.1.trans DD.out.1, DK.out.2.1.trans DD.out.2.1, DK.out.2.2.trans DD.out.2.2⟩⟩
        case measure => simp [intOf]; omega
      by_cases hd1 : k < 30
      · have hd2 : ¬ bn ≤ 600 := fun h => hdo ⟨hd1, h⟩
        clear hdo
        go_wp2_with (first
          | ((with_reducible refine load_cells (o := ⟨some 41, _, _, _, _, _⟩) rfl _ _ rfl db (doff + k * 5) ?_ [.int .i64 op, .int .i64 slot, .int .i64 nn, .slice ba bn bc, .slice ka kn kc] _ HCE.out Try.underlying33 ?_ ?_ ?_); (focus go_simp); (focus rfl); (focus (exact DS.out)))
          | ((with_reducible refine alloc_row (o := ⟨some 10, _, _, _, _, _⟩) rfl _ rfl _ DZ.out ?_); intro w2 hr2 hb2 hz2; have R2 := Lib.hid hr2; have B2 := Lib.hid hb2; clear hr2 hb2 hz2)
          | ((with_reducible refine store_row (o := ⟨none, _, _, _, _, _⟩) rfl _ (.tmp 10) _ rfl wr.heap.size [.int .i64 op, .int .i64 slot, .int .i64 nn, .slice ba bn bc, .slice ka kn kc] ?_ ?_ 33 _ R2.out ?_ ?_ ?_ ?_); (focus go_simp); (focus go_simp); (focus (exact DS.out)); (focus rfl); (focus (exact doi_one _ _ _ _ _ _ _ _ _)); intro w3 hr3 hu3; have R3 := Lib.hid hr3; have B3 := Lib.hid (B2.out.trans (hu3.below (Nat.le_refl _))); obtain ⟨c0, c1, c2, c3, c4⟩ := hr3.c5; clear hr3 hu3)
          )
        go_roundw
        case rel => exact ⟨k + 1, d, S, vint (by omega), by omega, Lib.hid (P.out.ft (Ft.of_below (F := fun _ => False) B3.out) fun _ _ x => x), Lib.hid (B.out.trans (B3.out.mono B.out.size)), NEW, DD⟩
        case measure => simp [intOf]; omega
      · clear hdo
        go_wp2_with (first
          | ((with_reducible refine load_cells (o := ⟨some 41, _, _, _, _, _⟩) rfl _ _ rfl db (doff + k * 5) ?_ [.int .i64 op, .int .i64 slot, .int .i64 nn, .slice ba bn bc, .slice ka kn kc] _ HCE.out Try.underlying33 ?_ ?_ ?_); (focus go_simp); (focus rfl); (focus (exact DS.out)))
          | ((with_reducible refine alloc_row (o := ⟨some 10, _, _, _, _, _⟩) rfl _ rfl _ DZ.out ?_); intro w2 hr2 hb2 hz2; have R2 := Lib.hid hr2; have B2 := Lib.hid hb2; clear hr2 hb2 hz2)
          | ((with_reducible refine store_row (o := ⟨none, _, _, _, _, _⟩) rfl _ (.tmp 10) _ rfl wr.heap.size [.int .i64 op, .int .i64 slot, .int .i64 nn, .slice ba bn bc, .slice ka kn kc] ?_ ?_ 33 _ R2.out ?_ ?_ ?_ ?_); (focus go_simp); (focus go_simp); (focus (exact DS.out)); (focus rfl); (focus (exact doi_one _ _ _ _ _ _ _ _ _)); intro w3 hr3 hu3; have R3 := Lib.hid hr3; have B3 := Lib.hid (B2.out.trans (hu3.below (Nat.le_refl _))); obtain ⟨c0, c1, c2, c3, c4⟩ := hr3.c5; clear hr3 hu3)
          )
        go_roundw
        case rel => exact ⟨k + 1, d, S, vint (by omega), by omega, Lib.hid (P.out.ft (Ft.of_below (F := fun _ => False) B3.out) fun _ _ x => x), Lib.hid (B.out.trans (B3.out.mono B.out.size)), NEW, DD⟩
        case measure => simp [intOf]; omega
    · obtain rfl : len = k := by omega
      by_cases hbig : room < m
      · have HE := Lib.hid (show d.apE 0 l = 7 by unfold DSt.apE; rw [if_neg (by rw [slot0 DD.out.2.1]; decide), DD.out.1, if_pos (by unfold DSt.at; rw [show (0 : Int).toNat = 0 from rfl, DD.out.2.2, HML.out]; simp; omega)])
        go_wp2_with (first
          | (go_at_call 13; refine (dappend_any p S d 0 a m c l wr P.out (HRD.out.mono B.out)).mono ?_; rw [HE.out]; rintro e w4 ⟨rfl, S', h1, f1, g1⟩; have B4 := Lib.hid (Ft.deep B.out f1 NEW.out); clear h1 f1 g1)
          | (go_at_call 12; refine (awake9 w4).mono ?_; rintro e w9 ⟨rfl, hb9⟩; have B9 := Lib.hid (B4.out.trans (hb9.mono B4.out.size)); clear hb9))
        go_ret
        exact ⟨rfl, B9.out⟩
      · have HE := Lib.hid (show d.apE 0 l = 0 by unfold DSt.apE; rw [if_neg (by rw [slot0 DD.out.2.1]; decide), DD.out.1, if_neg (by unfold DSt.at; rw [show (0 : Int).toNat = 0 from rfl, DD.out.2.2, HML.out]; simp; omega)])
        go_wp2_with (first
          | (go_at_call 13; refine (dappend_any p S d 0 a m c l wr P.out (HRD.out.mono B.out)).mono ?_; rw [HE.out]; rintro e w4 ⟨rfl, S', h1, f1, g1⟩; have B4 := Lib.hid (Ft.deep B.out f1 NEW.out); clear h1 f1 g1)
          | (go_at_call 12; refine (awake9 w4).mono ?_; rintro e w9 ⟨rfl, hb9⟩; have B9 := Lib.hid (B4.out.trans (hb9.mono B4.out.size)); clear hb9))
        go_ret
        exact ⟨rfl, B9.out⟩

set_option maxRecDepth 100000 in
set_option maxHeartbeats 4000000 in
theorem apart_not (room : Int) (la : Option Addr) (len cap : Nat) (a : Option Addr) (m c : Nat) (w : World) (_hr : -9223372036854775808 ≤ room ∧ room ≤ 9223372036854775807) (h : 600 < m ∨ room < 0 ∨ 524288 < room) :
    Calls Try.prog 5 #[.int .i64 room, .slice la len cap, .slice a m c] w fun e w' => e = .returned (.bool true) ∧ Below w.heap.size w w' := by
  have h' : (600 : Int) < m ∨ room < 0 ∨ 524288 < room := by omega
  clear h
  go_enter Try.func5, Try.ntmps5
  rcases h' with h1 | h1 | h1
  · go_wp2_with (go_at_call 12; refine (awake9 w).mono ?_; rintro e w9 ⟨rfl, hb9⟩)
    all_goals (go_ret; exact ⟨rfl, by assumption⟩)
  · by_cases h2 : (600 : Int) < m
    · go_wp2_with (go_at_call 12; refine (awake9 w).mono ?_; rintro e w9 ⟨rfl, hb9⟩)
      all_goals (go_ret; exact ⟨rfl, by assumption⟩)
    · go_wp2_with (go_at_call 12; refine (awake9 w).mono ?_; rintro e w9 ⟨rfl, hb9⟩)
      all_goals (go_ret; exact ⟨rfl, by assumption⟩)
  · have h3 : ¬ room < 0 := by omega
    by_cases h2 : (600 : Int) < m
    · go_wp2_with (go_at_call 12; refine (awake9 w).mono ?_; rintro e w9 ⟨rfl, hb9⟩)
      all_goals (go_ret; exact ⟨rfl, by assumption⟩)
    · go_wp2_with (go_at_call 12; refine (awake9 w).mono ?_; rintro e w9 ⟨rfl, hb9⟩)
      all_goals (go_ret; exact ⟨rfl, by assumption⟩)
theorem law_DiskApart (room : Int) (la : Option Addr) (len cap : Nat) (D : List DoC) (a : Option Addr) (m c : Nat) (zs : List Int) (w : World) (w0 : (Lit.int .i64 room).wf = true) (h : Dos w la len cap D) (w2 : IsRow .u8 w a m c zs) :
    Calls Try.prog 5 #[.int .i64 room, .slice la len cap, .slice a m c] w fun e w' => e = .returned (.bool true) ∧ Below w.heap.size w w' := by
  by_cases hok : 600 < m ∨ room < 0 ∨ 524288 < room
  · exact apart_not room la len cap a m c w (bd w0) hok
  · obtain ⟨r, rfl⟩ : ∃ r : Nat, room = r := ⟨room.toNat, by omega⟩
    exact apart_ok r la len cap D a m c _ w h (Rd.of_row w2) (fun h0 => w2.old h0) (by omega) (by omega)
end Go.Proofs.Ytlohfalpcppcjaa.W
