/- LAYER 9 (disk): the law DiskLives. -/
import Derived.Test.YtlohfalpcppcjaaDpL
set_option linter.unusedSimpArgs false
set_option linter.unusedVariables false
namespace Go.Proofs.Ytlohfalpcppcjaa.W
open Go Go.ChangeShapes Go.WideShapes Go.ChangeAt Go.RowKit

theorem IsRow.below {k : IntKind} {w w' : World} {a : Option Addr} {len cap : Nat} {zs : List Int} {base : Nat} (h : IsRow k w a len cap zs) (hb : Below base w w') (hw : base = w.heap.size) : IsRow k w' a len cap zs := by
  subst hw
  rcases h with h | ⟨x, rfl, h1, h2, h3, h4, h5⟩
  · exact .inl h
  · refine .inr ⟨x, rfl, h1, h2, h3, fun i hi => ?_, h5⟩
    have := h4 i hi
    rw [hb.cell (World.block_lt_of_cell? w _ this)]; exact this
theorem DoW.below {w w' : World} {d : DoC} (h : DoW w d) (hb : Below w.heap.size w w') : DoW w' d := by
  obtain ⟨h1, ⟨z, h2⟩, ⟨y, h3⟩⟩ := h
  exact ⟨h1, ⟨z, h2.below hb rfl⟩, ⟨y, h3.below hb rfl⟩⟩
theorem IsRow.old {k : IntKind} {w : World} {a : Option Addr} {len cap : Nat} {zs : List Int} (h : IsRow k w a len cap zs) (h0 : len ≠ 0) : ∀ b off, a = some ⟨b, off, none⟩ → b < w.heap.size := by
  rcases h with ⟨-, h, -⟩ | ⟨x, rfl, h1, h2, h3, h4, h5⟩
  · exact absurd h h0
  · intro b off e
    injection e with e
    have := World.block_lt_of_cell? w _ (h4 0 (by omega))
    rw [e] at this
    exact this
theorem doi_one (a b c : Int) (x : Option Addr) (n m : Nat) (y : Option Addr) (i j : Nat) : ∀ v ∈ ([.int .i64 a, .int .i64 b, .int .i64 c, .slice x n m, .slice y i j] : List Value), v.oneCell' = true := by
  intro v hv
  simp at hv
  rcases hv with rfl | rfl | rfl | rfl | rfl <;> rfl
theorem doi_zero : (Try.prog.info? 33).map (·.zero) = some (some (.agg [.int .i64 0, .int .i64 0, .int .i64 0, .slice none 0 0, .slice none 0 0].toArray)) := by kernel_rfl
theorem doi_size : (Try.prog.info? 33).map (·.size) = some 5 := by kernel_rfl
theorem Ft.deep {F : Nat → Prop} {w v v' : World} (h : Below w.heap.size w v) (f : Ft F v v') (hF : ∀ k, F k → w.heap.size ≤ k) : Below w.heap.size w v' := h.trans (f.below h.size hF)

set_option maxRecDepth 100000 in
set_option maxHeartbeats 4000000 in
theorem lives_bad (z room : Int) (la : Option Addr) (len cap : Nat) (D : List DoC) (w : World) (hz : -9223372036854775808 ≤ z ∧ z ≤ 9223372036854775807) (hroom : -9223372036854775808 ≤ room ∧ room ≤ 9223372036854775807) (h : Dos w la len cap D) (hbad : z < 1 ∨ 16 < z ∨ room < 0 ∨ 524288 < room) :
    Calls Try.prog 3 #[.int .i64 z, .int .i64 room, .slice la len cap] w fun e w' => e = .returned (.bool true) ∧ Below w.heap.size w w' := by
  have H := Lib.hid h
  have HN := Lib.hid (dnew_bad z room w hz hroom hbad)
  have HX := Lib.hid (xnew_bad z room w hz hroom hbad)
  have DZ := Lib.hid doi_zero
  have DS := Lib.hid doi_size
  have hlc := h.hle
  have hcm := h.hmax
  clear h hbad hz hroom
  go_enter Try.func3, Try.ntmps3
  go_wp2_with (first
    | (go_at_call 8; refine HN.out.mono ?_; rintro e w1 ⟨rfl, rfl⟩)
    | (go_at_call 9; refine HX.out.mono ?_; rintro e w1 ⟨rfl, rfl⟩))
  go_loopw [37] (fun i wr => ∃ k : Nat, i = .int .i64 (k : Int) ∧ k = 0 ∧ Hid (Below w1.heap.size w1 wr)) (fun i _ => len - (intOf i).toNat)
  case atStart => exact ⟨0, rfl, rfl, Lib.hid (Below.refl _ _)⟩
  case round =>
    obtain ⟨k, rfl, hk0, B⟩ := hrel
    by_cases hlt : k < len
    ·
      obtain ⟨db, doff, hla, hdb, hce⟩ := (H.out.hcells).resolve_left (by omega)
      have hce2 := hce k hlt
      have hkD : k < D.length := by rw [H.out.hlen]; exact hlt
      have hfit : DoW wr (D.getD k default) := DoW.below (H.out.hfit _ (by rw [show D.getD k default = D[k] by simp [hkD]]; exact List.getElem_mem hkD)) B.out
      have hfo := (H.out.hfit (D.getD k default) (by rw [show D.getD k default = D[k] by simp [hkD]]; exact List.getElem_mem hkD))
      obtain ⟨⟨op, slot, nn, ⟨ba, bn, bc⟩, ⟨ka, kn, kc⟩⟩, hdd⟩ : ∃ dd, D.getD k default = dd := ⟨_, rfl⟩
      rw [hdd] at hfit hce2 hfo
      have HCE : Hid (∀ j v, ([.int .i64 op, .int .i64 slot, .int .i64 nn, .slice ba bn bc, .slice ka kn kc] : List Value)[j]? = some v → wr.cell? ⟨db, doff + k * 5 + j, none⟩ = some v) := Lib.hid (fun j v hj => (B.out.cell (p := ⟨db, doff + k * 5 + j, none⟩) hdb).trans (hce2 j v hj))
      have HFIT := Lib.hid hfit
      have hsl : -9223372036854775808 ≤ slot ∧ slot ≤ 9223372036854775807 := hfit.1.2.1
      subst hla
      have HFO : Hid ((bn ≠ 0 → ∀ b off, ba = some ⟨b, off, none⟩ → b < w1.heap.size) ∧ (kn ≠ 0 → ∀ b off, ka = some ⟨b, off, none⟩ → b < w1.heap.size)) := Lib.hid (by obtain ⟨-, ⟨zb, hzb⟩, ⟨zk, hzk⟩⟩ := hfo; exact ⟨fun h0 => hzb.old h0, fun h0 => hzk.old h0⟩)
      clear hce hce2 hkD hfit hdd hfo
      go_wp2_with (first
        | ((with_reducible refine load_cells (o := ⟨some 41, _, _, _, _, _⟩) rfl _ _ rfl db (doff + k * 5) ?_ [.int .i64 op, .int .i64 slot, .int .i64 nn, .slice ba bn bc, .slice ka kn kc] _ HCE.out Try.underlying33 ?_ ?_ ?_); (focus go_simp); (focus rfl); (focus (exact DS.out)))
        | ((with_reducible refine alloc_row (o := ⟨some 12, _, _, _, _, _⟩) rfl _ rfl _ DZ.out ?_); intro w2 hr2 hb2 hz2; have R2 := Lib.hid hr2; have B2 := Lib.hid hb2; clear hr2 hb2 hz2)
        | ((with_reducible refine store_row (o := ⟨none, _, _, _, _, _⟩) rfl _ (.tmp 12) _ rfl wr.heap.size [.int .i64 op, .int .i64 slot, .int .i64 nn, .slice ba bn bc, .slice ka kn kc] ?_ ?_ 33 _ R2.out ?_ ?_ ?_ ?_); (focus go_simp); (focus go_simp); (focus (exact DS.out)); (focus rfl); (focus (exact doi_one _ _ _ _ _ _ _ _ _)); intro w3 hr3 hu3; have R3 := Lib.hid hr3; have B3 := Lib.hid (B2.out.trans (hu3.below (Nat.le_refl _))); obtain ⟨c0, c1, c2, c3, c4⟩ := hr3.c5; clear hr3 hu3)
        | (go_at_call 12; refine (awake9 w3).mono ?_; rintro e w9 ⟨rfl, hb9⟩; have B9 := Lib.hid ((B.out.trans (B3.out.mono B.out.size)).trans (hb9.mono (Nat.le_trans B.out.size B3.out.size))); clear hb9))
      go_ret
      exact ⟨rfl, B9.out⟩
    · have hl0 : len = 0 := by omega
      go_wp2_with (go_at_call 12; refine (awake9 wr).mono ?_; rintro e w9 ⟨rfl, hb9⟩; have B9 := Lib.hid (B.out.trans (hb9.mono B.out.size)); clear hb9)
      go_ret
      exact ⟨rfl, B9.out⟩

set_option maxRecDepth 100000 in
set_option maxHeartbeats 4000000 in
theorem lives_ok (n room : Nat) (la : Option Addr) (len cap : Nat) (D : List DoC) (w : World) (h : Dos w la len cap D) (hn1 : 1 ≤ n) (hn2 : n ≤ 16) (hroom : room ≤ 524288) :
    Calls Try.prog 3 #[.int .i64 (n : Int), .int .i64 (room : Int), .slice la len cap] w fun e w' => e = .returned (.bool true) ∧ Below w.heap.size w w' := by
  have H := Lib.hid h
  have DZ := Lib.hid doi_zero
  have DS := Lib.hid doi_size
  have HN := Lib.hid (dnew_ok n room w hn1 hn2 hroom)
  have HXN := Lib.hid (fun v => xnew_ok n room v ⟨hn1, hn2⟩ hroom)
  have hlc := h.hle
  have hcm := h.hmax
  clear h hn1 hn2 hroom
  go_enter Try.func3, Try.ntmps3
  go_wp2_with (first
    | (go_at_call 8; refine HN.out.mono ?_; rintro e w1 ⟨p, S0, rfl, hp1, hb1, hs1⟩; have P1 := Lib.hid hp1; have B1 := Lib.hid hb1; have S1 := Lib.hid hs1; clear hp1 hb1 hs1)
    | (go_at_call 9; refine (HXN.out w1).mono ?_; rintro e w2 ⟨q, gb, gs, rfl, hnew⟩; have X2 := Lib.hid (xp_new hnew); have B2 := Lib.hid hnew.2; clear hnew))
  have T2 : Hid (Two PD w2 p q S0 (fun k => w1.heap.size ≤ k ∧ k < w2.heap.size) (DSt.new n room)) := Lib.hid ⟨P1.out.ft (Ft.of_below (F := fun _ => False) B2.out) (fun _ _ x => x), X2.out, fun b hb ht => absurd (dkC.lt P1.out b hb) (Nat.not_lt.2 ht.1)⟩
  have BB2 : Hid (Below w.heap.size w w2) := Lib.hid (B1.out.trans (B2.out.mono B1.out.size))
  go_loopw [37] (fun i wr => ∃ (k : Nat) (d : DSt) (S T : Nat → Prop), i = .int .i64 (k : Int) ∧ k ≤ len ∧ Hid (Two PD wr p q S T d) ∧ Hid (Below w.heap.size w wr) ∧ Hid ((∀ b, S b → w.heap.size ≤ b) ∧ ∀ b, T b → w.heap.size ≤ b)) (fun i _ => len - (intOf i).toNat)
  case atStart => exact ⟨0, _, _, _, rfl, Nat.zero_le _, T2, BB2, Lib.hid ⟨S1.out, fun b hb => Nat.le_trans B1.out.size hb.1⟩⟩
  case round =>
    obtain ⟨k, d, S, T, rfl, hk, TW, B, NEW⟩ := hrel
    by_cases hlt : k < len
    ·
      obtain ⟨db, doff, hla, hdb, hce⟩ := (H.out.hcells).resolve_left (by omega)
      have hce2 := hce k hlt
      have hkD : k < D.length := by rw [H.out.hlen]; exact hlt
      have hfit : DoW wr (D.getD k default) := DoW.below (H.out.hfit _ (by rw [show D.getD k default = D[k] by simp [hkD]]; exact List.getElem_mem hkD)) B.out
      have hfo := (H.out.hfit (D.getD k default) (by rw [show D.getD k default = D[k] by simp [hkD]]; exact List.getElem_mem hkD))
      obtain ⟨⟨op, slot, nn, ⟨ba, bn, bc⟩, ⟨ka, kn, kc⟩⟩, hdd⟩ : ∃ dd, D.getD k default = dd := ⟨_, rfl⟩
      rw [hdd] at hfit hce2 hfo
      have HCE : Hid (∀ j v, ([.int .i64 op, .int .i64 slot, .int .i64 nn, .slice ba bn bc, .slice ka kn kc] : List Value)[j]? = some v → wr.cell? ⟨db, doff + k * 5 + j, none⟩ = some v) := Lib.hid (fun j v hj => (B.out.cell (p := ⟨db, doff + k * 5 + j, none⟩) hdb).trans (hce2 j v hj))
      have HFIT := Lib.hid hfit
      have hsl : -9223372036854775808 ≤ slot ∧ slot ≤ 9223372036854775807 := hfit.1.2.1
      subst hla
      have HFO : Hid ((bn ≠ 0 → ∀ b off, ba = some ⟨b, off, none⟩ → b < w.heap.size) ∧ (kn ≠ 0 → ∀ b off, ka = some ⟨b, off, none⟩ → b < w.heap.size)) := Lib.hid (by obtain ⟨-, ⟨zb, hzb⟩, ⟨zk, hzk⟩⟩ := hfo; exact ⟨fun h0 => hzb.old h0, fun h0 => hzk.old h0⟩)
      clear hce hce2 hkD hfit hdd hfo
      clear hsl
      have HDO : Hid (∀ v, Below wr.heap.size wr v → Calls Try.prog 10 #[.pointer (some ⟨p, 0, none⟩), .pointer (some ⟨q, 0, none⟩), .agg #[.int .i64 op, .int .i64 slot, .int .i64 nn, .slice ba bn bc, .slice ka kn kc]] v fun e w' => e = .returned (.bool true) ∧ Did PD v w' p q S T) := Lib.hid (fun v hv => do_any dkC p q S T d ⟨op, slot, nn, ⟨ba, bn, bc⟩, ⟨ka, kn, kc⟩⟩ v (TW.out.below dkC hv) (HFIT.out.below hv)
        (fun h0 b off e => ⟨fun hs => absurd (HFO.out.1 h0 b off e) (Nat.not_lt.2 (NEW.out.1 b hs)), fun ht => absurd (HFO.out.1 h0 b off e) (Nat.not_lt.2 (NEW.out.2 b ht))⟩)
        (fun h0 b off e => ⟨fun hs => absurd (HFO.out.2 h0 b off e) (Nat.not_lt.2 (NEW.out.1 b hs)), fun ht => absurd (HFO.out.2 h0 b off e) (Nat.not_lt.2 (NEW.out.2 b ht))⟩))
      by_cases h40 : k < 40
      · go_wp2_with (first
          | ((with_reducible refine load_cells (o := ⟨some 41, _, _, _, _, _⟩) rfl _ _ rfl db (doff + k * 5) ?_ [.int .i64 op, .int .i64 slot, .int .i64 nn, .slice ba bn bc, .slice ka kn kc] _ HCE.out Try.underlying33 ?_ ?_ ?_); (focus go_simp); (focus rfl); (focus (exact DS.out)))
          | ((with_reducible refine alloc_row (o := ⟨some 12, _, _, _, _, _⟩) rfl _ rfl _ DZ.out ?_); intro w2 hr2 hb2 hz2; have R2 := Lib.hid hr2; have B2 := Lib.hid hb2; clear hr2 hb2 hz2)
          | ((with_reducible refine store_row (o := ⟨none, _, _, _, _, _⟩) rfl _ (.tmp 12) _ rfl wr.heap.size [.int .i64 op, .int .i64 slot, .int .i64 nn, .slice ba bn bc, .slice ka kn kc] ?_ ?_ 33 _ R2.out ?_ ?_ ?_ ?_); (focus go_simp); (focus go_simp); (focus (exact DS.out)); (focus rfl); (focus (exact doi_one _ _ _ _ _ _ _ _ _)); intro w3 hr3 hu3; have R3 := Lib.hid hr3; have B3 := Lib.hid (B2.out.trans (hu3.below (Nat.le_refl _))); obtain ⟨c0, c1, c2, c3, c4⟩ := hr3.c5; clear hr3 hu3)
          | ((with_reducible refine load_row (o := ⟨some 50, _, _, _, _, _⟩) rfl _ _ rfl wr.heap.size ?_ 33 _ _ R3.out Try.underlying33 ?_ ?_ ?_); (focus go_simp); (focus rfl); (focus (exact DS.out)))
          | (go_at_call 10; refine (HDO.out w3 B3.out).mono ?_; rintro e w4 ⟨rfl, S', T', d', h1, f1, g1, g2⟩; have T4 := Lib.hid h1; have B4 := Lib.hid (Ft.deep (B.out.trans (B3.out.mono B.out.size)) f1 (fun b hb => hb.elim (NEW.out.1 b) (NEW.out.2 b))); have NEW4 : Hid ((∀ b, S' b → w.heap.size ≤ b) ∧ ∀ b, T' b → w.heap.size ≤ b) := Lib.hid ⟨fun b hb => (g1 b hb).elim (NEW.out.1 b) fun e => Nat.le_trans (Nat.le_trans B.out.size B3.out.size) e, fun b hb => (g2 b hb).elim (NEW.out.2 b) fun e => Nat.le_trans (Nat.le_trans B.out.size B3.out.size) e⟩; clear h1 f1 g1 g2 c0 c1 c2 c3 c4)
          | (go_at_call 11; refine (same_two dkC p q S' T' d' w4 T4.out).mono ?_; rintro e w5 ⟨rfl, hb5⟩; have T5 := Lib.hid (T4.out.below dkC hb5); have B5 := Lib.hid (B4.out.trans (hb5.mono B4.out.size)); clear hb5))
        go_roundw
        case rel => exact ⟨k + 1, d', S', T', vint (by omega), by omega, T5, B5, NEW4⟩
        case measure => simp [intOf]; omega
      · go_wp2_with (first
          | ((with_reducible refine load_cells (o := ⟨some 41, _, _, _, _, _⟩) rfl _ _ rfl db (doff + k * 5) ?_ [.int .i64 op, .int .i64 slot, .int .i64 nn, .slice ba bn bc, .slice ka kn kc] _ HCE.out Try.underlying33 ?_ ?_ ?_); (focus go_simp); (focus rfl); (focus (exact DS.out)))
          | ((with_reducible refine alloc_row (o := ⟨some 12, _, _, _, _, _⟩) rfl _ rfl _ DZ.out ?_); intro w2 hr2 hb2 hz2; have R2 := Lib.hid hr2; have B2 := Lib.hid hb2; clear hr2 hb2 hz2)
          | ((with_reducible refine store_row (o := ⟨none, _, _, _, _, _⟩) rfl _ (.tmp 12) _ rfl wr.heap.size [.int .i64 op, .int .i64 slot, .int .i64 nn, .slice ba bn bc, .slice ka kn kc] ?_ ?_ 33 _ R2.out ?_ ?_ ?_ ?_); (focus go_simp); (focus go_simp); (focus (exact DS.out)); (focus rfl); (focus (exact doi_one _ _ _ _ _ _ _ _ _)); intro w3 hr3 hu3; have R3 := Lib.hid hr3; have B3 := Lib.hid (B2.out.trans (hu3.below (Nat.le_refl _))); obtain ⟨c0, c1, c2, c3, c4⟩ := hr3.c5; clear hr3 hu3)
          | (go_at_call 12; refine (awake9 w3).mono ?_; rintro e w9 ⟨rfl, hb9⟩; have B9 := Lib.hid ((B.out.trans (B3.out.mono B.out.size)).trans (hb9.mono (Nat.le_trans B.out.size B3.out.size))); clear hb9))
        go_ret
        exact ⟨rfl, B9.out⟩
    · obtain rfl : len = k := by omega
      go_wp2_with (go_at_call 12; refine (awake9 wr).mono ?_; rintro e w9 ⟨rfl, hb9⟩; have B9 := Lib.hid (B.out.trans (hb9.mono B.out.size)); clear hb9)
      go_ret
      exact ⟨rfl, B9.out⟩
theorem law_DiskLives (z room : Int) (la : Option Addr) (len cap : Nat) (D : List DoC) (w : World) (w0 : (Lit.int .i64 z).wf = true) (w1 : (Lit.int .i64 room).wf = true) (h : Dos w la len cap D) :
    Calls Try.prog 3 #[.int .i64 z, .int .i64 room, .slice la len cap] w fun e w' => e = .returned (.bool true) ∧ Below w.heap.size w w' := by
  by_cases hok : z < 1 ∨ 16 < z ∨ room < 0 ∨ 524288 < room
  · exact lives_bad z room la len cap D w (bd w0) (bd w1) h hok
  · obtain ⟨n, rfl⟩ : ∃ n : Nat, z = n := ⟨z.toNat, by omega⟩
    obtain ⟨r, rfl⟩ : ∃ r : Nat, room = r := ⟨room.toNat, by omega⟩
    exact lives_ok n r la len cap D w h (by omega) (by omega) (by omega)
end Go.Proofs.Ytlohfalpcppcjaa.W
