/- LAYER 9 (disk): the law DiskCopies. -/
import Derived.Test.YtlohfalpcppcjaaDpM
import Derived.Test.YtlohfalpcppcjaaDpP
set_option linter.unusedSimpArgs false
set_option linter.unusedVariables false
namespace Go.Proofs.Ytlohfalpcppcjaa.W
open Go Go.ChangeShapes Go.WideShapes Go.ChangeAt Go.RowKit

theorem dcopy_any (p : Nat) (S : Nat → Prop) (d : DSt) (w : World) (h : PD w p S d) :
    Calls Try.prog 20 #[.pointer (some ⟨p, 0, none⟩)] w fun e w' => ∃ q S', e = .returned (.pointer (some ⟨q, 0, none⟩)) ∧ PD w' q S' d ∧ Below w.heap.size w w' ∧ ∀ k, S' k → w.heap.size ≤ k := by
  obtain ⟨g, L, vs, hx⟩ := h
  exact dcopy p g L vs S d w hx

set_option maxRecDepth 100000 in
set_option maxHeartbeats 4000000 in
theorem law_DiskCopies (la : Option Addr) (len cap : Nat) (D : List DoC) (a : Option Addr) (m c : Nat) (zs : List Int) (w : World) (h : Dos w la len cap D) (w1 : IsRow .u8 w a m c zs) :
    Calls Try.prog 6 #[.slice la len cap, .slice a m c] w fun e w' => e = .returned (.bool true) ∧ Below w.heap.size w w' := by
  have H := Lib.hid h
  have HRD := Lib.hid (Rd.of_row w1)
  obtain ⟨l, hl⟩ : ∃ l, ((zs.take m).map fun n => UInt8.ofNat n.toNat) = l := ⟨_, rfl⟩
  rw [hl] at HRD
  have DZ := Lib.hid doi_zero
  have DS := Lib.hid doi_size
  have HN := Lib.hid (dnew_ok 3 4000 w (by decide) (by decide) (by decide))
  have HXN := Lib.hid (fun v => xnew_ok 3 4000 v ⟨by decide, by decide⟩ (by decide))
  have hlc := h.hle
  have hcm := h.hmax
  clear h w1 hl
  by_cases h600 : (600 : Int) < m
  · go_enter Try.func6, Try.ntmps6
    go_wp2_with (first
      | (go_at_call 8; refine HN.out.mono ?_; rintro e w1 ⟨p, S0, rfl, hp1, hb1, hs1⟩; have B1 := Lib.hid hb1; clear hp1 hb1 hs1)
      | (go_at_call 9; refine (HXN.out w1).mono ?_; rintro e w2 ⟨q, gb, gs, rfl, hnew⟩; have B2 := Lib.hid (B1.out.trans (hnew.2.mono B1.out.size)); clear hnew)
      | (go_at_call 12; refine (awake9 w2).mono ?_; rintro e w9 ⟨rfl, hb9⟩; have B9 := Lib.hid (B2.out.trans (hb9.mono B2.out.size)); clear hb9))
    go_ret
    exact ⟨rfl, B9.out⟩
  go_enter Try.func6, Try.ntmps6
  go_wp2_with (first
    | (go_at_call 8; refine HN.out.mono ?_; rintro e w1 ⟨p, S0, rfl, hp1, hb1, hs1⟩; have P1 := Lib.hid hp1; have B1 := Lib.hid hb1; have S1 := Lib.hid hs1; clear hp1 hb1 hs1)
    | (go_at_call 9; refine (HXN.out w1).mono ?_; rintro e w2 ⟨q, gb, gs, rfl, hnew⟩; have X2 := Lib.hid (xp_new hnew); have B2 := Lib.hid hnew.2; clear hnew))
  have T2 : Hid (Two PD w2 p q S0 (fun k => w1.heap.size ≤ k ∧ k < w2.heap.size) (DSt.new 3 4000)) := Lib.hid ⟨P1.out.ft (Ft.of_below (F := fun _ => False) B2.out) (fun _ _ x => x), X2.out, fun b hb ht => absurd (dkC.lt P1.out b hb) (Nat.not_lt.2 ht.1)⟩
  have BB2 : Hid (Below w.heap.size w w2) := Lib.hid (B1.out.trans (B2.out.mono B1.out.size))
  go_loopw [38] (fun i wr => ∃ (k : Nat) (d : DSt) (S T : Nat → Prop), i = .int .i64 (k : Int) ∧ k ≤ len ∧ Hid (Two PD wr p q S T d) ∧ Hid (Below w.heap.size w wr) ∧ Hid ((∀ b, S b → w.heap.size ≤ b) ∧ ∀ b, T b → w.heap.size ≤ b)) (fun i _ => len - (intOf i).toNat)
  case atStart => exact ⟨0, _, _, _, rfl, Nat.zero_le _, T2, BB2, Lib.hid ⟨S1.out, fun b hb => Nat.le_trans B1.out.size hb.1⟩⟩
  case round =>
    obtain ⟨k, d, S, T, rfl, hk, TW, B, NEW⟩ := hrel
    by_cases hlt : k < len
    ·
      obtain ⟨db, doff, hla, hdb, hce⟩ := (H.out.hcells).resolve_left (by omega)
      have hce2 := hce k hlt
      have hkD : k < D.length := by rw [H.out.hlen]; exact hlt
      have hfit : DoW wr (D.getD k default) := DoW.below (H.out.hfit _ (by rw [show D.getD k default = D[k] by simp [hkD]]; exact List.getElem_mem hkD)) B.out
      have hfo := (H.out.hfit (D.getD k default) (by rw [show D.getD k default = D[k] by simp [hkD]]; exact List.getElem_mem hkD))
      obtain ⟨⟨op, slot, nn, ⟨ba, bn, bc⟩, ⟨ka, kn, kc⟩⟩, hdd⟩ : ∃ dd, D.getD k default = dd := ⟨_, rfl⟩
      rw [hdd] at hfit hce2 hfo
      have HCE : Hid (∀ j v, ([.int .i64 op, .int .i64 slot, .int .i64 nn, .slice ba bn bc, .slice ka kn kc] : List Value)[j]? = some v → wr.cell? ⟨db, doff + k * 5 + j, none⟩ = some v) := Lib.hid (fun j v hj => (B.out.cell (p := ⟨db, doff + k * 5 + j, none⟩) hdb).trans (hce2 j v hj))
      have HFIT := Lib.hid hfit
      have hsl : -9223372036854775808 ≤ slot ∧ slot ≤ 9223372036854775807 := hfit.1.2.1
      subst hla
      have HFO : Hid ((bn ≠ 0 → ∀ b off, ba = some ⟨b, off, none⟩ → b < w.heap.size) ∧ (kn ≠ 0 → ∀ b off, ka = some ⟨b, off, none⟩ → b < w.heap.size)) := Lib.hid (by obtain ⟨-, ⟨zb, hzb⟩, ⟨zk, hzk⟩⟩ := hfo; exact ⟨fun h0 => hzb.old h0, fun h0 => hzk.old h0⟩)
      clear hce hce2 hkD hfit hdd hfo hsl
      have HDO : Hid (∀ v, Below wr.heap.size wr v → Calls Try.prog 10 #[.pointer (some ⟨p, 0, none⟩), .pointer (some ⟨q, 0, none⟩), .agg #[.int .i64 op, .int .i64 slot, .int .i64 nn, .slice ba bn bc, .slice ka kn kc]] v fun e w' => e = .returned (.bool true) ∧ Did PD v w' p q S T) := Lib.hid (fun v hv => do_any dkC p q S T d ⟨op, slot, nn, ⟨ba, bn, bc⟩, ⟨ka, kn, kc⟩⟩ v (TW.out.below dkC hv) (HFIT.out.below hv)
        (fun h0 b off e => ⟨fun hs => absurd (HFO.out.1 h0 b off e) (Nat.not_lt.2 (NEW.out.1 b hs)), fun ht => absurd (HFO.out.1 h0 b off e) (Nat.not_lt.2 (NEW.out.2 b ht))⟩)
        (fun h0 b off e => ⟨fun hs => absurd (HFO.out.2 h0 b off e) (Nat.not_lt.2 (NEW.out.1 b hs)), fun ht => absurd (HFO.out.2 h0 b off e) (Nat.not_lt.2 (NEW.out.2 b ht))⟩))
      by_cases h20 : k < 20
      · go_wp2_with (first
          | ((with_reducible refine load_cells (o := ⟨some 42, _, _, _, _, _⟩) rfl _ _ rfl db (doff + k * 5) ?_ [.int .i64 op, .int .i64 slot, .int .i64 nn, .slice ba bn bc, .slice ka kn kc] _ HCE.out Try.underlying33 ?_ ?_ ?_); (focus go_simp); (focus rfl); (focus (exact DS.out)))
          | ((with_reducible refine alloc_row (o := ⟨some 10, _, _, _, _, _⟩) rfl _ rfl _ DZ.out ?_); intro w2 hr2 hb2 hz2; have R2 := Lib.hid hr2; have B2 := Lib.hid hb2; clear hr2 hb2 hz2)
          | ((with_reducible refine store_row (o := ⟨none, _, _, _, _, _⟩) rfl _ (.tmp 10) _ rfl wr.heap.size [.int .i64 op, .int .i64 slot, .int .i64 nn, .slice ba bn bc, .slice ka kn kc] ?_ ?_ 33 _ R2.out ?_ ?_ ?_ ?_); (focus go_simp); (focus go_simp); (focus (exact DS.out)); (focus rfl); (focus (exact doi_one _ _ _ _ _ _ _ _ _)); intro w3 hr3 hu3; have R3 := Lib.hid hr3; have B3 := Lib.hid (B2.out.trans (hu3.below (Nat.le_refl _))); obtain ⟨c0, c1, c2, c3, c4⟩ := hr3.c5; clear hr3 hu3)
          | ((with_reducible refine load_row (o := ⟨some 48, _, _, _, _, _⟩) rfl _ _ rfl wr.heap.size ?_ 33 _ _ R3.out Try.underlying33 ?_ ?_ ?_); (focus go_simp); (focus rfl); (focus (exact DS.out)))
          | (go_at_call 10; refine (HDO.out w3 B3.out).mono ?_; rintro e w4 ⟨rfl, S', T', d', h1, f1, g1, g2⟩; have T4 := Lib.hid h1; have B4 := Lib.hid (Ft.deep (B.out.trans (B3.out.mono B.out.size)) f1 (fun b hb => hb.elim (NEW.out.1 b) (NEW.out.2 b))); have NEW4 : Hid ((∀ b, S' b → w.heap.size ≤ b) ∧ ∀ b, T' b → w.heap.size ≤ b) := Lib.hid ⟨fun b hb => (g1 b hb).elim (NEW.out.1 b) fun e => Nat.le_trans (Nat.le_trans B.out.size B3.out.size) e, fun b hb => (g2 b hb).elim (NEW.out.2 b) fun e => Nat.le_trans (Nat.le_trans B.out.size B3.out.size) e⟩; clear h1 f1 g1 g2 c0 c1 c2 c3 c4))
        go_roundw
        case rel => exact ⟨k + 1, d', S', T', vint (by omega), by omega, T4, B4, NEW4⟩
        case measure => simp [intOf]; omega
      · go_wp2_with (first
          | ((with_reducible refine load_cells (o := ⟨some 42, _, _, _, _, _⟩) rfl _ _ rfl db (doff + k * 5) ?_ [.int .i64 op, .int .i64 slot, .int .i64 nn, .slice ba bn bc, .slice ka kn kc] _ HCE.out Try.underlying33 ?_ ?_ ?_); (focus go_simp); (focus rfl); (focus (exact DS.out)))
          | ((with_reducible refine alloc_row (o := ⟨some 10, _, _, _, _, _⟩) rfl _ rfl _ DZ.out ?_); intro w2 hr2 hb2 hz2; have R2 := Lib.hid hr2; have B2 := Lib.hid hb2; clear hr2 hb2 hz2)
          | ((with_reducible refine store_row (o := ⟨none, _, _, _, _, _⟩) rfl _ (.tmp 10) _ rfl wr.heap.size [.int .i64 op, .int .i64 slot, .int .i64 nn, .slice ba bn bc, .slice ka kn kc] ?_ ?_ 33 _ R2.out ?_ ?_ ?_ ?_); (focus go_simp); (focus go_simp); (focus (exact DS.out)); (focus rfl); (focus (exact doi_one _ _ _ _ _ _ _ _ _)); intro w3 hr3 hu3; have R3 := Lib.hid hr3; have B3 := Lib.hid (B2.out.trans (hu3.below (Nat.le_refl _))); obtain ⟨c0, c1, c2, c3, c4⟩ := hr3.c5; clear hr3 hu3)
          )
        go_roundw
        case rel => exact ⟨k + 1, d, S, T, vint (by omega), by omega, Lib.hid (TW.out.below dkC B3.out), Lib.hid (B.out.trans (B3.out.mono B.out.size)), NEW⟩
        case measure => simp [intOf]; omega
    · obtain rfl : len = k := by omega
      go_wp2_with (first
        | (go_at_call 20; refine (dcopy_any p S d wr TW.out.l).mono ?_; rintro e w3 ⟨z, Z, rfl, hz, hb3, hn3⟩; have Z3 := Lib.hid hz; have B3 := Lib.hid hb3; have N3 := Lib.hid hn3; have T3 := Lib.hid (TW.out.below dkC hb3); have TC : Hid (Two PD w3 z q Z T d) := Lib.hid ⟨hz, T3.out.r, fun b hb ht => absurd (TW.out.r.lt b ht) (Nat.not_lt.2 (hn3 b hb))⟩; clear hz hb3 hn3)
        | (go_at_call 11; (with_reducible refine (same_two dkC z q Z T d w3 TC.out).mono ?_); rintro e w4 ⟨rfl, hb4⟩; have Z4 := Lib.hid (Z3.out.ft (Ft.of_below (F := fun _ => False) hb4) fun _ _ x => x); have T4 := Lib.hid (T3.out.below dkC hb4); have B4 := Lib.hid (B3.out.trans (hb4.mono B3.out.size)); clear hb4 Z3)
        | (go_at_call 13; (with_reducible refine (dappend_any z Z d 0 a m c l w4 Z4.out (HRD.out.mono (B.out.trans (B4.out.mono B.out.size)))).mono ?_); rintro e w5 ⟨rfl, Z', hp, hf, hg⟩; have Z5 := Lib.hid hp; have B5 := Lib.hid (B4.out.trans (hf.below B4.out.size N3.out)); have N5 : Hid (∀ b, Z' b → wr.heap.size ≤ b) := Lib.hid (fun b hb => (hg b hb).elim (N3.out b) fun e => Nat.le_trans B4.out.size e); clear hp hf hg Z4 T4)
        | (go_at_call 21; (with_reducible refine (dkC.clear z Z' _ 1 w5 Z5.out).mono ?_); rintro e w6 ⟨rfl, Z6', hp, hf, hg⟩; have Z6 := Lib.hid hp; have B6 := Lib.hid (B5.out.trans (hf.below B5.out.size N5.out)); have N6 : Hid (∀ b, Z6' b → wr.heap.size ≤ b) := Lib.hid (fun b hb => (hg b hb).elim (N5.out b) fun e => Nat.le_trans B5.out.size e); clear hp hf hg Z5)
        | (go_at_call 14; (with_reducible refine (dkC.sync z Z6' _ w6 Z6.out).mono ?_); rintro e w7 ⟨rfl, Z7', hp, hf, hg⟩; have B7 := Lib.hid (B6.out.trans (hf.below B6.out.size N6.out)); have T7 := Lib.hid (TW.out.below dkC B7.out); clear hp hf hg Z6)
        | (go_at_call 11; (with_reducible refine (same_two dkC p q S T d w7 T7.out).mono ?_); rintro e w8 ⟨rfl, hb8⟩; have B8 := Lib.hid (B7.out.trans (hb8.mono B7.out.size)); clear hb8 T7)
        | (go_at_call 12; refine (awake9 w8).mono ?_; rintro e w9 ⟨rfl, hb9⟩; have B9 := Lib.hid ((B.out.trans (B8.out.mono B.out.size)).trans (hb9.mono (Nat.le_trans B.out.size B8.out.size))); clear hb9))
      go_ret
      exact ⟨rfl, B9.out⟩
end Go.Proofs.Ytlohfalpcppcjaa.W
