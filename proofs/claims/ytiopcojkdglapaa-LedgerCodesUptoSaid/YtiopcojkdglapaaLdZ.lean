/- LAYER 19 (ledger): Reserve of the reference. -/
import Derived.Test.YtiopcojkdglapaaLdY
set_option linter.unusedSimpArgs false
set_option linter.unusedVariables false
namespace Go.Proofs.Ytiopcojkdglapaa.W
open Go Go.ChangeShapes Go.WideShapes Go.ChangeAt Go.RowKit
open Go.Proofs.Ytiopcojkdglapaa.P (enc dec)
open Go.Proofs.Ytiopcojkdglapaa.S

theorem results_row_tmp2 {P : Program} {fn : Func} {p a b : Tmp} {ty : TypeId} (h : fn.results = #[.cell p ty, .tmp a, .tmp b]) (tmps : Array Value) (w : World) (g : Nat) (t : TypeId) (cs : Array Value) (fr : Nat × Nat) (d : TypeDesc)
    (hp : tmps.getD p undef = .pointer (some ⟨g, 0, none⟩)) (hg : w.heap[g]? = some (.cells cs t fr))
    (hu : P.underlying ty = some d) (hd : (match d with | .struct _ | .array _ _ => true | _ => false) = true) (hi : (P.info? ty).map (·.size) = some cs.size) :
    (results fn tmps).run P w = .ok (.tuple #[.agg cs, tmps.getD a undef, tmps.getD b undef]) w := by
  have hp' : tmps[p]?.getD undef = .pointer (some ⟨g, 0, none⟩) := by simpa using hp
  simp [results, h, hp', asAddr, run_loadVar_row w g t ty cs fr d hg hu hd hi]
set_option maxRecDepth 100000 in
set_option maxHeartbeats 8000000 in
theorem yreserve (v : Value) (l : Ld) (x : Hd) (w : World) (h : LdV w v l) (hok : OkL l) (hx : x.fit) :
    Calls Try.prog 96 #[v, .agg x.cells.toArray] w fun e w' => ∃ v', e = .returned (.tuple #[v', .int .i64 (l.reserve x).2.1, .int .i64 (l.reserve x).2.2]) ∧ LdV w' v' (l.reserve x).1 ∧ Below w.heap.size w w' := by
  obtain ⟨a, n, c, rfl, h⟩ := h
  have hn8 : n ≤ 8 := by rw [← h.hlen]; exact hok.len
  have hu := hok.u
  have hq := hok.q
  have hh := hok.h
  have hnn := hok.n
  obtain ⟨q, u, h', nx, L⟩ := l
  obtain ⟨i1, i2, i3, i4, i5, sp⟩ := x
  dsimp only at h hok hu hq hh hnn ⊢
  have LZS := Lib.hid ld_size
  have LZ := Lib.hid ld_zero
  have HSZ := Lib.hid hd_size
  have H := Lib.hid h
  have HL := Lib.hid h.hlen
  have HF := Lib.hid (h.hfit)
  have HC := Lib.hid (fun w' h => ycopied q u h' nx a n c L w' h (by omega))
  have hfx : Hd.fit ⟨nx, i2, i3, i4, i5, sp⟩ := ⟨(show SI64 nx from ⟨by omega, by omega⟩), hx.cl, hx.by', hx.un, hx.ti, hx.sp⟩
  have FX := Lib.hid hfx
  have HONE := Lib.hid (fun w => yone ⟨nx, i2, i3, i4, i5, sp⟩ w hfx)
  have HFN := Lib.hid (show ∀ x ∈ L ++ [(⟨nx, i2, i3, i4, i5, sp⟩ : Hd)], x.fit from fun x hx => by
    rcases List.mem_append.1 hx with hx | hx
    · exact h.hfit x hx
    · simp at hx; rw [hx]; exact hfx)
  have HA := Lib.hid (show Ld.reserve ⟨q, u, h', nx, L⟩ ⟨i1, i2, i3, i4, i5, sp⟩ = if Hd.ok ⟨nx, i2, i3, i4, i5, sp⟩ = false then (⟨q, u, h', nx, L⟩, 0, 1) else if 8 ≤ n ∨ 2147483648 ≤ nx then (⟨q, u, h', nx, L⟩, 0, 7) else if q < u + h' + i3 then (⟨q, u, h', nx, L⟩, 0, 14) else (⟨q, u, h' + i3, nx + 1, L ++ [⟨nx, i2, i3, i4, i5, sp⟩]⟩, nx, 0) by rw [← HL.out]; rfl)
  clear h hok hx hfx
  rw [show (Hd.cells ⟨i1, i2, i3, i4, i5, sp⟩) = [.int .i64 i1, .int .i64 i2, .int .i64 i3, .int .i64 i4, .int .i64 i5, .string sp] from rfl]
  rw [HA.out]
  obtain ⟨ok, hok⟩ : ∃ b, Hd.ok ⟨nx, i2, i3, i4, i5, sp⟩ = b := ⟨_, rfl⟩
  have HOK := Lib.hid hok
  rw [hok]
  have HONE := Lib.hid (show ∀ w, Calls Try.prog 95 #[.agg #[.int .i64 nx, .int .i64 i2, .int .i64 i3, .int .i64 i4, .int .i64 i5, .string sp]] w fun x w' => x = .returned (.bool (Hd.ok ⟨nx, i2, i3, i4, i5, sp⟩)) ∧ Below w.heap.size w w' from HONE.out)
  rcases ok with _ | _
  · clear hok
    simp only [if_true]
    go_enter Try.func96, Try.ntmps96
    go_wp2_with (first
      | ((with_reducible refine box_row (o := ⟨some 2, _, _, _, _, _⟩) rfl _ _ rfl (ldC q u h' nx a n c) rfl ?_); intro w1 hr hb hz; have R1 := Lib.hid hr; have B1 := Lib.hid hb; have HZ1 := Lib.hid hz; have B1S := Lib.hid (show w.heap.size < w1.heap.size by omega); clear hr hb hz)
      | ((with_reducible refine box_row (o := ⟨some 3, _, _, _, _, _⟩) rfl _ _ rfl [.int .i64 i1, .int .i64 i2, .int .i64 i3, .int .i64 i4, .int .i64 i5, .string sp] rfl ?_); intro w2 hr hb hz; have RH2 := Lib.hid hr; have R12 := Lib.hid (R1.out.below hb R1.out.lt); have B2 := Lib.hid (B1.out.trans (hb.mono B1.out.size)); have HZ2 := Lib.hid hz; have B2S := Lib.hid (show w1.heap.size < w2.heap.size by omega); clear hr hb hz)
      | ((with_reducible refine alloc_row (o := ⟨some 4, _, _, _, _, _⟩) rfl _ rfl _ LZ.out ?_); intro w3 hr hb hz; have R23 := Lib.hid hr; have RH3 := Lib.hid (RH2.out.below hb RH2.out.lt); have R13 := Lib.hid (R12.out.below hb R12.out.lt); have B3 := Lib.hid (B2.out.trans (hb.mono B2.out.size)); clear hr hb hz)
      | ((with_reducible refine load_row (o := ⟨some 9, _, _, _, _, _⟩) rfl _ _ rfl w.heap.size ?_ _ (ldC q u h' nx a n c) _ R13.out Try.underlying50 rfl ?_ ?_); (focus go_simp); (focus (exact LZS.out)))
      | (go_at_call 145; (with_reducible refine (HC.out w3 (H.out.mono hdOk B3.out)).mono ?_); rintro x w4 ⟨a3, c3, rfl, hown, hb⟩; have O4 := Lib.hid hown; have Z4 := Lib.hid hb.size; have R14 := Lib.hid (R13.out.below hb R13.out.lt); have RH4 := Lib.hid (RH3.out.below hb RH3.out.lt); have R24 := Lib.hid (R23.out.below hb R23.out.lt); have B4 := Lib.hid (B3.out.trans (hb.mono B3.out.size)); clear hown hb)
      | ((with_reducible refine store_row (o := ⟨none, _, _, _, _, _⟩) rfl _ (.tmp 2) _ rfl w.heap.size (ldC q u h' nx a3 n c3) ?_ ?_ 50 _ R14.out ?_ ?_ ?_ ?_); (focus go_simp); (focus (first | (go_simp; done) | (go_simp; rfl))); (focus (exact LZS.out)); (focus rfl); (focus (exact ld_one _ _ _ _ _ _ _)); intro w5 hr hu; have R15 := Lib.hid hr; obtain ⟨c0, c1, c2, c3', c4⟩ := hr.l5; have RH5 := Lib.hid (RH4.out.upd hu (Nat.ne_of_gt B1S.out)); have R25 := Lib.hid (R24.out.upd hu (Nat.ne_of_gt (Nat.lt_trans B1S.out B2S.out))); have O5 := Lib.hid (O4.out.upd_lt hu R13.out.lt); have B5 := Lib.hid (B4.out.trans (hu.below (Nat.le_refl _))); have Z5 := Lib.hid (show w3.heap.size ≤ w5.heap.size by have := hu.size; have := Z4.out; omega); clear hr hu)
      | ((with_reducible refine store_cell (o := ⟨none, _, _, _, _, _⟩) rfl _ (.tmp 13) _ rfl w1.heap.size 0 (.int .i64 nx) ?_ ?_ rfl rfl 52 _ RH5.out ?_ ?_ ?_); (focus go_simp); (focus (go_simp; first | done | rfl)); (focus (kernel_rfl)); (focus (show 0 < 6; decide)); intro w6 hr hu; have RH6 := Lib.hid (show Row w6 w1.heap.size 52 [.int .i64 nx, .int .i64 i2, .int .i64 i3, .int .i64 i4, .int .i64 i5, .string sp] from hr); have R16 := Lib.hid (R15.out.upd hu (Nat.ne_of_lt B1S.out)); have R26 := Lib.hid (R25.out.upd hu (Nat.ne_of_gt B2S.out)); have O6 := Lib.hid (O5.out.upd_lt hu RH3.out.lt); have B6 := Lib.hid (B5.out.trans (hu.below B1.out.size)); have Z6 := Lib.hid (show w3.heap.size ≤ w6.heap.size by have := hu.size; have := Z5.out; omega); clear hr hu c0 c1 c2 c3' c4)
      | ((with_reducible refine load_row (o := ⟨some 14, _, _, _, _, _⟩) rfl _ _ rfl w1.heap.size ?_ _ [.int .i64 nx, .int .i64 i2, .int .i64 i3, .int .i64 i4, .int .i64 i5, .string sp] _ RH6.out Try.underlying52 rfl ?_ ?_); (focus go_simp); (focus (exact HSZ.out)))
      | (go_at_call 95; (with_reducible refine (HONE.out w6).mono ?_); rw [HOK.out]; rintro x w7 ⟨rfl, hb⟩; have R17 := Lib.hid (R16.out.below hb R16.out.lt); have RH7 := Lib.hid (RH6.out.below hb RH6.out.lt); have R27 := Lib.hid (R26.out.below hb R26.out.lt); have O7 := Lib.hid (O6.out.kept hb); have B7 := Lib.hid (B6.out.trans (hb.mono B6.out.size)); have Z7 := Lib.hid (Nat.le_trans Z6.out hb.size); obtain ⟨c0, c1, c2, c3', c4⟩ := R17.out.l5; obtain ⟨d0, d1, d2, d3, d4, d5⟩ := RH7.out.h6; clear hb)
      | ((with_reducible refine load_row (o := ⟨some 17, _, _, _, _, _⟩) rfl _ _ rfl w.heap.size ?_ _ (ldC q u h' nx a3 n c3) _ R17.out Try.underlying50 rfl ?_ ?_); (focus go_simp); (focus (exact LZS.out)))
      | ((with_reducible refine store_row (o := ⟨none, _, _, _, _, _⟩) rfl _ (.tmp 4) _ rfl w2.heap.size (ldC q u h' nx a3 n c3) ?_ ?_ 50 _ R27.out ?_ ?_ ?_ ?_); (focus go_simp); (focus (first | (go_simp; done) | (go_simp; rfl))); (focus (exact LZS.out)); (focus rfl); (focus (exact ld_one _ _ _ _ _ _ _)); intro w8 hr hu; have R28 := Lib.hid hr; have O8 := Lib.hid (O7.out.upd_lt hu R23.out.lt); have B8 := Lib.hid (B7.out.trans (hu.below B2.out.size)); clear hr hu))
    exact bodyPost_ret (results_row_tmp2 rfl _ _ w2.heap.size 50 _ _ _ (by go_simp) R28.out Try.underlying50 rfl LZS.out) rfl ⟨_, rfl, ⟨_, _, _, rfl, (hd_out O8.out HL.out HF.out)⟩, B8.out⟩
  · have hi3 := (ok_hd.1 hok).by'
    have hi3 : 0 ≤ i3 ∧ i3 ≤ 1099511627776 := hi3
    have hs3 := sum_3 (m := q) hu hh hi3
    obtain ⟨s1, hs1⟩ : ∃ s, (sumG q 0 [u, h', i3]).1 = s := ⟨_, rfl⟩
    clear hok
    simp only [Bool.true_eq_false, if_false]
    by_cases h8 : 8 ≤ n
    · rw [if_pos (.inl h8)]
      have h8 : (8 : Int) ≤ (n : Int) := by omega
      clear hs3 hs1
      go_enter Try.func96, Try.ntmps96
      go_wp2_with (first
        | ((with_reducible refine box_row (o := ⟨some 2, _, _, _, _, _⟩) rfl _ _ rfl (ldC q u h' nx a n c) rfl ?_); intro w1 hr hb hz; have R1 := Lib.hid hr; have B1 := Lib.hid hb; have HZ1 := Lib.hid hz; have B1S := Lib.hid (show w.heap.size < w1.heap.size by omega); clear hr hb hz)
        | ((with_reducible refine box_row (o := ⟨some 3, _, _, _, _, _⟩) rfl _ _ rfl [.int .i64 i1, .int .i64 i2, .int .i64 i3, .int .i64 i4, .int .i64 i5, .string sp] rfl ?_); intro w2 hr hb hz; have RH2 := Lib.hid hr; have R12 := Lib.hid (R1.out.below hb R1.out.lt); have B2 := Lib.hid (B1.out.trans (hb.mono B1.out.size)); have HZ2 := Lib.hid hz; have B2S := Lib.hid (show w1.heap.size < w2.heap.size by omega); clear hr hb hz)
        | ((with_reducible refine alloc_row (o := ⟨some 4, _, _, _, _, _⟩) rfl _ rfl _ LZ.out ?_); intro w3 hr hb hz; have R23 := Lib.hid hr; have RH3 := Lib.hid (RH2.out.below hb RH2.out.lt); have R13 := Lib.hid (R12.out.below hb R12.out.lt); have B3 := Lib.hid (B2.out.trans (hb.mono B2.out.size)); clear hr hb hz)
        | ((with_reducible refine load_row (o := ⟨some 9, _, _, _, _, _⟩) rfl _ _ rfl w.heap.size ?_ _ (ldC q u h' nx a n c) _ R13.out Try.underlying50 rfl ?_ ?_); (focus go_simp); (focus (exact LZS.out)))
        | (go_at_call 145; (with_reducible refine (HC.out w3 (H.out.mono hdOk B3.out)).mono ?_); rintro x w4 ⟨a3, c3, rfl, hown, hb⟩; have O4 := Lib.hid hown; have Z4 := Lib.hid hb.size; have R14 := Lib.hid (R13.out.below hb R13.out.lt); have RH4 := Lib.hid (RH3.out.below hb RH3.out.lt); have R24 := Lib.hid (R23.out.below hb R23.out.lt); have B4 := Lib.hid (B3.out.trans (hb.mono B3.out.size)); clear hown hb)
        | ((with_reducible refine store_row (o := ⟨none, _, _, _, _, _⟩) rfl _ (.tmp 2) _ rfl w.heap.size (ldC q u h' nx a3 n c3) ?_ ?_ 50 _ R14.out ?_ ?_ ?_ ?_); (focus go_simp); (focus (first | (go_simp; done) | (go_simp; rfl))); (focus (exact LZS.out)); (focus rfl); (focus (exact ld_one _ _ _ _ _ _ _)); intro w5 hr hu; have R15 := Lib.hid hr; obtain ⟨c0, c1, c2, c3', c4⟩ := hr.l5; have RH5 := Lib.hid (RH4.out.upd hu (Nat.ne_of_gt B1S.out)); have R25 := Lib.hid (R24.out.upd hu (Nat.ne_of_gt (Nat.lt_trans B1S.out B2S.out))); have O5 := Lib.hid (O4.out.upd_lt hu R13.out.lt); have B5 := Lib.hid (B4.out.trans (hu.below (Nat.le_refl _))); have Z5 := Lib.hid (show w3.heap.size ≤ w5.heap.size by have := hu.size; have := Z4.out; omega); clear hr hu)
        | ((with_reducible refine store_cell (o := ⟨none, _, _, _, _, _⟩) rfl _ (.tmp 13) _ rfl w1.heap.size 0 (.int .i64 nx) ?_ ?_ rfl rfl 52 _ RH5.out ?_ ?_ ?_); (focus go_simp); (focus (go_simp; first | done | rfl)); (focus (kernel_rfl)); (focus (show 0 < 6; decide)); intro w6 hr hu; have RH6 := Lib.hid (show Row w6 w1.heap.size 52 [.int .i64 nx, .int .i64 i2, .int .i64 i3, .int .i64 i4, .int .i64 i5, .string sp] from hr); have R16 := Lib.hid (R15.out.upd hu (Nat.ne_of_lt B1S.out)); have R26 := Lib.hid (R25.out.upd hu (Nat.ne_of_gt B2S.out)); have O6 := Lib.hid (O5.out.upd_lt hu RH3.out.lt); have B6 := Lib.hid (B5.out.trans (hu.below B1.out.size)); have Z6 := Lib.hid (show w3.heap.size ≤ w6.heap.size by have := hu.size; have := Z5.out; omega); clear hr hu c0 c1 c2 c3' c4)
        | ((with_reducible refine load_row (o := ⟨some 14, _, _, _, _, _⟩) rfl _ _ rfl w1.heap.size ?_ _ [.int .i64 nx, .int .i64 i2, .int .i64 i3, .int .i64 i4, .int .i64 i5, .string sp] _ RH6.out Try.underlying52 rfl ?_ ?_); (focus go_simp); (focus (exact HSZ.out)))
        | (go_at_call 95; (with_reducible refine (HONE.out w6).mono ?_); rw [HOK.out]; rintro x w7 ⟨rfl, hb⟩; have R17 := Lib.hid (R16.out.below hb R16.out.lt); have RH7 := Lib.hid (RH6.out.below hb RH6.out.lt); have R27 := Lib.hid (R26.out.below hb R26.out.lt); have O7 := Lib.hid (O6.out.kept hb); have B7 := Lib.hid (B6.out.trans (hb.mono B6.out.size)); have Z7 := Lib.hid (Nat.le_trans Z6.out hb.size); obtain ⟨c0, c1, c2, c3', c4⟩ := R17.out.l5; obtain ⟨d0, d1, d2, d3, d4, d5⟩ := RH7.out.h6; clear hb)
        | ((with_reducible refine load_row (o := ⟨some 27, _, _, _, _, _⟩) rfl _ _ rfl w.heap.size ?_ _ (ldC q u h' nx a3 n c3) _ R17.out Try.underlying50 rfl ?_ ?_); (focus go_simp); (focus (exact LZS.out)))
        | ((with_reducible refine store_row (o := ⟨none, _, _, _, _, _⟩) rfl _ (.tmp 4) _ rfl w2.heap.size (ldC q u h' nx a3 n c3) ?_ ?_ 50 _ R27.out ?_ ?_ ?_ ?_); (focus go_simp); (focus (first | (go_simp; done) | (go_simp; rfl))); (focus (exact LZS.out)); (focus rfl); (focus (exact ld_one _ _ _ _ _ _ _)); intro w8 hr hu; have R28 := Lib.hid hr; have O8 := Lib.hid (O7.out.upd_lt hu R23.out.lt); have B8 := Lib.hid (B7.out.trans (hu.below B2.out.size)); clear hr hu))
      exact bodyPost_ret (results_row_tmp2 rfl _ _ w2.heap.size 50 _ _ _ (by go_simp) R28.out Try.underlying50 rfl LZS.out) rfl ⟨_, rfl, ⟨_, _, _, rfl, (hd_out O8.out HL.out HF.out)⟩, B8.out⟩
    · have h8n : ¬ (8 : Int) ≤ (n : Int) := by omega
      by_cases h31 : 2147483648 ≤ nx
      · rw [if_pos (.inr h31)]
        clear hs3 hs1
        go_enter Try.func96, Try.ntmps96
        go_wp2_with (first
          | ((with_reducible refine box_row (o := ⟨some 2, _, _, _, _, _⟩) rfl _ _ rfl (ldC q u h' nx a n c) rfl ?_); intro w1 hr hb hz; have R1 := Lib.hid hr; have B1 := Lib.hid hb; have HZ1 := Lib.hid hz; have B1S := Lib.hid (show w.heap.size < w1.heap.size by omega); clear hr hb hz)
          | ((with_reducible refine box_row (o := ⟨some 3, _, _, _, _, _⟩) rfl _ _ rfl [.int .i64 i1, .int .i64 i2, .int .i64 i3, .int .i64 i4, .int .i64 i5, .string sp] rfl ?_); intro w2 hr hb hz; have RH2 := Lib.hid hr; have R12 := Lib.hid (R1.out.below hb R1.out.lt); have B2 := Lib.hid (B1.out.trans (hb.mono B1.out.size)); have HZ2 := Lib.hid hz; have B2S := Lib.hid (show w1.heap.size < w2.heap.size by omega); clear hr hb hz)
          | ((with_reducible refine alloc_row (o := ⟨some 4, _, _, _, _, _⟩) rfl _ rfl _ LZ.out ?_); intro w3 hr hb hz; have R23 := Lib.hid hr; have RH3 := Lib.hid (RH2.out.below hb RH2.out.lt); have R13 := Lib.hid (R12.out.below hb R12.out.lt); have B3 := Lib.hid (B2.out.trans (hb.mono B2.out.size)); clear hr hb hz)
          | ((with_reducible refine load_row (o := ⟨some 9, _, _, _, _, _⟩) rfl _ _ rfl w.heap.size ?_ _ (ldC q u h' nx a n c) _ R13.out Try.underlying50 rfl ?_ ?_); (focus go_simp); (focus (exact LZS.out)))
          | (go_at_call 145; (with_reducible refine (HC.out w3 (H.out.mono hdOk B3.out)).mono ?_); rintro x w4 ⟨a3, c3, rfl, hown, hb⟩; have O4 := Lib.hid hown; have Z4 := Lib.hid hb.size; have R14 := Lib.hid (R13.out.below hb R13.out.lt); have RH4 := Lib.hid (RH3.out.below hb RH3.out.lt); have R24 := Lib.hid (R23.out.below hb R23.out.lt); have B4 := Lib.hid (B3.out.trans (hb.mono B3.out.size)); clear hown hb)
          | ((with_reducible refine store_row (o := ⟨none, _, _, _, _, _⟩) rfl _ (.tmp 2) _ rfl w.heap.size (ldC q u h' nx a3 n c3) ?_ ?_ 50 _ R14.out ?_ ?_ ?_ ?_); (focus go_simp); (focus (first | (go_simp; done) | (go_simp; rfl))); (focus (exact LZS.out)); (focus rfl); (focus (exact ld_one _ _ _ _ _ _ _)); intro w5 hr hu; have R15 := Lib.hid hr; obtain ⟨c0, c1, c2, c3', c4⟩ := hr.l5; have RH5 := Lib.hid (RH4.out.upd hu (Nat.ne_of_gt B1S.out)); have R25 := Lib.hid (R24.out.upd hu (Nat.ne_of_gt (Nat.lt_trans B1S.out B2S.out))); have O5 := Lib.hid (O4.out.upd_lt hu R13.out.lt); have B5 := Lib.hid (B4.out.trans (hu.below (Nat.le_refl _))); have Z5 := Lib.hid (show w3.heap.size ≤ w5.heap.size by have := hu.size; have := Z4.out; omega); clear hr hu)
          | ((with_reducible refine store_cell (o := ⟨none, _, _, _, _, _⟩) rfl _ (.tmp 13) _ rfl w1.heap.size 0 (.int .i64 nx) ?_ ?_ rfl rfl 52 _ RH5.out ?_ ?_ ?_); (focus go_simp); (focus (go_simp; first | done | rfl)); (focus (kernel_rfl)); (focus (show 0 < 6; decide)); intro w6 hr hu; have RH6 := Lib.hid (show Row w6 w1.heap.size 52 [.int .i64 nx, .int .i64 i2, .int .i64 i3, .int .i64 i4, .int .i64 i5, .string sp] from hr); have R16 := Lib.hid (R15.out.upd hu (Nat.ne_of_lt B1S.out)); have R26 := Lib.hid (R25.out.upd hu (Nat.ne_of_gt B2S.out)); have O6 := Lib.hid (O5.out.upd_lt hu RH3.out.lt); have B6 := Lib.hid (B5.out.trans (hu.below B1.out.size)); have Z6 := Lib.hid (show w3.heap.size ≤ w6.heap.size by have := hu.size; have := Z5.out; omega); clear hr hu c0 c1 c2 c3' c4)
          | ((with_reducible refine load_row (o := ⟨some 14, _, _, _, _, _⟩) rfl _ _ rfl w1.heap.size ?_ _ [.int .i64 nx, .int .i64 i2, .int .i64 i3, .int .i64 i4, .int .i64 i5, .string sp] _ RH6.out Try.underlying52 rfl ?_ ?_); (focus go_simp); (focus (exact HSZ.out)))
          | (go_at_call 95; (with_reducible refine (HONE.out w6).mono ?_); rw [HOK.out]; rintro x w7 ⟨rfl, hb⟩; have R17 := Lib.hid (R16.out.below hb R16.out.lt); have RH7 := Lib.hid (RH6.out.below hb RH6.out.lt); have R27 := Lib.hid (R26.out.below hb R26.out.lt); have O7 := Lib.hid (O6.out.kept hb); have B7 := Lib.hid (B6.out.trans (hb.mono B6.out.size)); have Z7 := Lib.hid (Nat.le_trans Z6.out hb.size); obtain ⟨c0, c1, c2, c3', c4⟩ := R17.out.l5; obtain ⟨d0, d1, d2, d3, d4, d5⟩ := RH7.out.h6; clear hb)
          | ((with_reducible refine load_row (o := ⟨some 27, _, _, _, _, _⟩) rfl _ _ rfl w.heap.size ?_ _ (ldC q u h' nx a3 n c3) _ R17.out Try.underlying50 rfl ?_ ?_); (focus go_simp); (focus (exact LZS.out)))
          | ((with_reducible refine store_row (o := ⟨none, _, _, _, _, _⟩) rfl _ (.tmp 4) _ rfl w2.heap.size (ldC q u h' nx a3 n c3) ?_ ?_ 50 _ R27.out ?_ ?_ ?_ ?_); (focus go_simp); (focus (first | (go_simp; done) | (go_simp; rfl))); (focus (exact LZS.out)); (focus rfl); (focus (exact ld_one _ _ _ _ _ _ _)); intro w8 hr hu; have R28 := Lib.hid hr; have O8 := Lib.hid (O7.out.upd_lt hu R23.out.lt); have B8 := Lib.hid (B7.out.trans (hu.below B2.out.size)); clear hr hu))
        exact bodyPost_ret (results_row_tmp2 rfl _ _ w2.heap.size 50 _ _ _ (by go_simp) R28.out Try.underlying50 rfl LZS.out) rfl ⟨_, rfl, ⟨_, _, _, rfl, (hd_out O8.out HL.out HF.out)⟩, B8.out⟩
      · rw [if_neg (by omega)]
        by_cases hlt : q < u + h' + i3
        · rw [if_pos hlt] at hs3 ⊢
          have HS := Lib.hid (show sumG q 0 [u, h', i3] = (s1, 8) from Prod.ext hs1 hs3)
          clear hs1 hs3
          go_enter Try.func96, Try.ntmps96
          go_wp2_with (first
            | ((with_reducible refine box_row (o := ⟨some 2, _, _, _, _, _⟩) rfl _ _ rfl (ldC q u h' nx a n c) rfl ?_); intro w1 hr hb hz; have R1 := Lib.hid hr; have B1 := Lib.hid hb; have HZ1 := Lib.hid hz; have B1S := Lib.hid (show w.heap.size < w1.heap.size by omega); clear hr hb hz)
            | ((with_reducible refine box_row (o := ⟨some 3, _, _, _, _, _⟩) rfl _ _ rfl [.int .i64 i1, .int .i64 i2, .int .i64 i3, .int .i64 i4, .int .i64 i5, .string sp] rfl ?_); intro w2 hr hb hz; have RH2 := Lib.hid hr; have R12 := Lib.hid (R1.out.below hb R1.out.lt); have B2 := Lib.hid (B1.out.trans (hb.mono B1.out.size)); have HZ2 := Lib.hid hz; have B2S := Lib.hid (show w1.heap.size < w2.heap.size by omega); clear hr hb hz)
            | ((with_reducible refine alloc_row (o := ⟨some 4, _, _, _, _, _⟩) rfl _ rfl _ LZ.out ?_); intro w3 hr hb hz; have R23 := Lib.hid hr; have RH3 := Lib.hid (RH2.out.below hb RH2.out.lt); have R13 := Lib.hid (R12.out.below hb R12.out.lt); have B3 := Lib.hid (B2.out.trans (hb.mono B2.out.size)); clear hr hb hz)
            | ((with_reducible refine load_row (o := ⟨some 9, _, _, _, _, _⟩) rfl _ _ rfl w.heap.size ?_ _ (ldC q u h' nx a n c) _ R13.out Try.underlying50 rfl ?_ ?_); (focus go_simp); (focus (exact LZS.out)))
            | (go_at_call 145; (with_reducible refine (HC.out w3 (H.out.mono hdOk B3.out)).mono ?_); rintro x w4 ⟨a3, c3, rfl, hown, hb⟩; have O4 := Lib.hid hown; have Z4 := Lib.hid hb.size; have R14 := Lib.hid (R13.out.below hb R13.out.lt); have RH4 := Lib.hid (RH3.out.below hb RH3.out.lt); have R24 := Lib.hid (R23.out.below hb R23.out.lt); have B4 := Lib.hid (B3.out.trans (hb.mono B3.out.size)); clear hown hb)
            | ((with_reducible refine store_row (o := ⟨none, _, _, _, _, _⟩) rfl _ (.tmp 2) _ rfl w.heap.size (ldC q u h' nx a3 n c3) ?_ ?_ 50 _ R14.out ?_ ?_ ?_ ?_); (focus go_simp); (focus (first | (go_simp; done) | (go_simp; rfl))); (focus (exact LZS.out)); (focus rfl); (focus (exact ld_one _ _ _ _ _ _ _)); intro w5 hr hu; have R15 := Lib.hid hr; obtain ⟨c0, c1, c2, c3', c4⟩ := hr.l5; have RH5 := Lib.hid (RH4.out.upd hu (Nat.ne_of_gt B1S.out)); have R25 := Lib.hid (R24.out.upd hu (Nat.ne_of_gt (Nat.lt_trans B1S.out B2S.out))); have O5 := Lib.hid (O4.out.upd_lt hu R13.out.lt); have B5 := Lib.hid (B4.out.trans (hu.below (Nat.le_refl _))); have Z5 := Lib.hid (show w3.heap.size ≤ w5.heap.size by have := hu.size; have := Z4.out; omega); clear hr hu)
            | ((with_reducible refine store_cell (o := ⟨none, _, _, _, _, _⟩) rfl _ (.tmp 13) _ rfl w1.heap.size 0 (.int .i64 nx) ?_ ?_ rfl rfl 52 _ RH5.out ?_ ?_ ?_); (focus go_simp); (focus (go_simp; first | done | rfl)); (focus (kernel_rfl)); (focus (show 0 < 6; decide)); intro w6 hr hu; have RH6 := Lib.hid (show Row w6 w1.heap.size 52 [.int .i64 nx, .int .i64 i2, .int .i64 i3, .int .i64 i4, .int .i64 i5, .string sp] from hr); have R16 := Lib.hid (R15.out.upd hu (Nat.ne_of_lt B1S.out)); have R26 := Lib.hid (R25.out.upd hu (Nat.ne_of_gt B2S.out)); have O6 := Lib.hid (O5.out.upd_lt hu RH3.out.lt); have B6 := Lib.hid (B5.out.trans (hu.below B1.out.size)); have Z6 := Lib.hid (show w3.heap.size ≤ w6.heap.size by have := hu.size; have := Z5.out; omega); clear hr hu c0 c1 c2 c3' c4)
            | ((with_reducible refine load_row (o := ⟨some 14, _, _, _, _, _⟩) rfl _ _ rfl w1.heap.size ?_ _ [.int .i64 nx, .int .i64 i2, .int .i64 i3, .int .i64 i4, .int .i64 i5, .string sp] _ RH6.out Try.underlying52 rfl ?_ ?_); (focus go_simp); (focus (exact HSZ.out)))
            | (go_at_call 95; (with_reducible refine (HONE.out w6).mono ?_); rw [HOK.out]; rintro x w7 ⟨rfl, hb⟩; have R17 := Lib.hid (R16.out.below hb R16.out.lt); have RH7 := Lib.hid (RH6.out.below hb RH6.out.lt); have R27 := Lib.hid (R26.out.below hb R26.out.lt); have O7 := Lib.hid (O6.out.kept hb); have B7 := Lib.hid (B6.out.trans (hb.mono B6.out.size)); have Z7 := Lib.hid (Nat.le_trans Z6.out hb.size); obtain ⟨c0, c1, c2, c3', c4⟩ := R17.out.l5; obtain ⟨d0, d1, d2, d3, d4, d5⟩ := RH7.out.h6; clear hb)
            | ((with_reducible refine build_i3 (o := ⟨some 37, _, _, _, _, _⟩) rfl _ _ _ rfl u h' i3 ?_ ?_ ?_ ?_ ?_ ?_ ?_); (focus (first | (go_simp; done) | (go_simp; rfl))); (focus (first | (go_simp; done) | (go_simp; rfl))); (focus (first | (go_simp; done) | (go_simp; rfl))); (focus (constructor <;> omega)); (focus (constructor <;> omega)); (focus (constructor <;> omega)); intro w8 hsl hb hz; have SL := Lib.hid hsl; have R18 := Lib.hid (R17.out.below hb R17.out.lt); have RH8 := Lib.hid (RH7.out.below hb RH7.out.lt); have R28 := Lib.hid (R27.out.below hb R27.out.lt); have O8 := Lib.hid (O7.out.kept hb); have B8 := Lib.hid (B7.out.trans (hb.mono B7.out.size)); have Z8 := Lib.hid (Nat.le_trans Z7.out hb.size); clear c0 c1 c2 c3' c4 d0 d1 d2 d3 d4 d5; obtain ⟨c0, c1, c2, c3', c4⟩ := R18.out.l5; obtain ⟨d0, d1, d2, d3, d4, d5⟩ := RH8.out.h6; clear hsl hb hz)
            | (go_at_call 146; with_reducible refine (rsum q _ 3 3 [u, h', i3] _ SL.out).mono ?_; rw [HS.out]; rintro x w' ⟨rfl, rfl⟩)
            | ((with_reducible refine load_row (o := ⟨some 43, _, _, _, _, _⟩) rfl _ _ rfl w.heap.size ?_ _ (ldC q u h' nx a3 n c3) _ R18.out Try.underlying50 rfl ?_ ?_); (focus go_simp); (focus (exact LZS.out)))
            | ((with_reducible refine store_row (o := ⟨none, _, _, _, _, _⟩) rfl _ (.tmp 4) _ rfl w2.heap.size (ldC q u h' nx a3 n c3) ?_ ?_ 50 _ R28.out ?_ ?_ ?_ ?_); (focus go_simp); (focus (first | (go_simp; done) | (go_simp; rfl))); (focus (exact LZS.out)); (focus rfl); (focus (exact ld_one _ _ _ _ _ _ _)); intro w9 hr hu; have R29 := Lib.hid hr; have O9 := Lib.hid (O8.out.upd_lt hu R23.out.lt); have B9 := Lib.hid (B8.out.trans (hu.below B2.out.size)); clear hr hu))
          exact bodyPost_ret (results_row_tmp2 rfl _ _ w2.heap.size 50 _ _ _ (by go_simp) R29.out Try.underlying50 rfl LZS.out) rfl ⟨_, rfl, ⟨_, _, _, rfl, (hd_out O9.out HL.out HF.out)⟩, B9.out⟩
        · rw [if_neg hlt] at hs3 ⊢
          have HS := Lib.hid (show sumG q 0 [u, h', i3] = (s1, 0) from Prod.ext hs1 hs3)
          clear hs1 hs3
          go_enter Try.func96, Try.ntmps96
          go_wp2_with (first
            | ((with_reducible refine box_row (o := ⟨some 2, _, _, _, _, _⟩) rfl _ _ rfl (ldC q u h' nx a n c) rfl ?_); intro w1 hr hb hz; have R1 := Lib.hid hr; have B1 := Lib.hid hb; have HZ1 := Lib.hid hz; have B1S := Lib.hid (show w.heap.size < w1.heap.size by omega); clear hr hb hz)
            | ((with_reducible refine box_row (o := ⟨some 3, _, _, _, _, _⟩) rfl _ _ rfl [.int .i64 i1, .int .i64 i2, .int .i64 i3, .int .i64 i4, .int .i64 i5, .string sp] rfl ?_); intro w2 hr hb hz; have RH2 := Lib.hid hr; have R12 := Lib.hid (R1.out.below hb R1.out.lt); have B2 := Lib.hid (B1.out.trans (hb.mono B1.out.size)); have HZ2 := Lib.hid hz; have B2S := Lib.hid (show w1.heap.size < w2.heap.size by omega); clear hr hb hz)
            | ((with_reducible refine alloc_row (o := ⟨some 4, _, _, _, _, _⟩) rfl _ rfl _ LZ.out ?_); intro w3 hr hb hz; have R23 := Lib.hid hr; have RH3 := Lib.hid (RH2.out.below hb RH2.out.lt); have R13 := Lib.hid (R12.out.below hb R12.out.lt); have B3 := Lib.hid (B2.out.trans (hb.mono B2.out.size)); clear hr hb hz)
            | ((with_reducible refine load_row (o := ⟨some 9, _, _, _, _, _⟩) rfl _ _ rfl w.heap.size ?_ _ (ldC q u h' nx a n c) _ R13.out Try.underlying50 rfl ?_ ?_); (focus go_simp); (focus (exact LZS.out)))
            | (go_at_call 145; (with_reducible refine (HC.out w3 (H.out.mono hdOk B3.out)).mono ?_); rintro x w4 ⟨a3, c3, rfl, hown, hb⟩; have O4 := Lib.hid hown; have Z4 := Lib.hid hb.size; have R14 := Lib.hid (R13.out.below hb R13.out.lt); have RH4 := Lib.hid (RH3.out.below hb RH3.out.lt); have R24 := Lib.hid (R23.out.below hb R23.out.lt); have B4 := Lib.hid (B3.out.trans (hb.mono B3.out.size)); clear hown hb)
            | ((with_reducible refine store_row (o := ⟨none, _, _, _, _, _⟩) rfl _ (.tmp 2) _ rfl w.heap.size (ldC q u h' nx a3 n c3) ?_ ?_ 50 _ R14.out ?_ ?_ ?_ ?_); (focus go_simp); (focus (first | (go_simp; done) | (go_simp; rfl))); (focus (exact LZS.out)); (focus rfl); (focus (exact ld_one _ _ _ _ _ _ _)); intro w5 hr hu; have R15 := Lib.hid hr; obtain ⟨c0, c1, c2, c3', c4⟩ := hr.l5; have RH5 := Lib.hid (RH4.out.upd hu (Nat.ne_of_gt B1S.out)); have R25 := Lib.hid (R24.out.upd hu (Nat.ne_of_gt (Nat.lt_trans B1S.out B2S.out))); have O5 := Lib.hid (O4.out.upd_lt hu R13.out.lt); have B5 := Lib.hid (B4.out.trans (hu.below (Nat.le_refl _))); have Z5 := Lib.hid (show w3.heap.size ≤ w5.heap.size by have := hu.size; have := Z4.out; omega); clear hr hu)
            | ((with_reducible refine store_cell (o := ⟨none, _, _, _, _, _⟩) rfl _ (.tmp 13) _ rfl w1.heap.size 0 (.int .i64 nx) ?_ ?_ rfl rfl 52 _ RH5.out ?_ ?_ ?_); (focus go_simp); (focus (go_simp; first | done | rfl)); (focus (kernel_rfl)); (focus (show 0 < 6; decide)); intro w6 hr hu; have RH6 := Lib.hid (show Row w6 w1.heap.size 52 [.int .i64 nx, .int .i64 i2, .int .i64 i3, .int .i64 i4, .int .i64 i5, .string sp] from hr); have R16 := Lib.hid (R15.out.upd hu (Nat.ne_of_lt B1S.out)); have R26 := Lib.hid (R25.out.upd hu (Nat.ne_of_gt B2S.out)); have O6 := Lib.hid (O5.out.upd_lt hu RH3.out.lt); have B6 := Lib.hid (B5.out.trans (hu.below B1.out.size)); have Z6 := Lib.hid (show w3.heap.size ≤ w6.heap.size by have := hu.size; have := Z5.out; omega); clear hr hu c0 c1 c2 c3' c4)
            | ((with_reducible refine load_row (o := ⟨some 14, _, _, _, _, _⟩) rfl _ _ rfl w1.heap.size ?_ _ [.int .i64 nx, .int .i64 i2, .int .i64 i3, .int .i64 i4, .int .i64 i5, .string sp] _ RH6.out Try.underlying52 rfl ?_ ?_); (focus go_simp); (focus (exact HSZ.out)))
            | (go_at_call 95; (with_reducible refine (HONE.out w6).mono ?_); rw [HOK.out]; rintro x w7 ⟨rfl, hb⟩; have R17 := Lib.hid (R16.out.below hb R16.out.lt); have RH7 := Lib.hid (RH6.out.below hb RH6.out.lt); have R27 := Lib.hid (R26.out.below hb R26.out.lt); have O7 := Lib.hid (O6.out.kept hb); have B7 := Lib.hid (B6.out.trans (hb.mono B6.out.size)); have Z7 := Lib.hid (Nat.le_trans Z6.out hb.size); obtain ⟨c0, c1, c2, c3', c4⟩ := R17.out.l5; obtain ⟨d0, d1, d2, d3, d4, d5⟩ := RH7.out.h6; clear hb)
            | ((with_reducible refine build_i3 (o := ⟨some 37, _, _, _, _, _⟩) rfl _ _ _ rfl u h' i3 ?_ ?_ ?_ ?_ ?_ ?_ ?_); (focus (first | (go_simp; done) | (go_simp; rfl))); (focus (first | (go_simp; done) | (go_simp; rfl))); (focus (first | (go_simp; done) | (go_simp; rfl))); (focus (constructor <;> omega)); (focus (constructor <;> omega)); (focus (constructor <;> omega)); intro w8 hsl hb hz; have SL := Lib.hid hsl; have R18 := Lib.hid (R17.out.below hb R17.out.lt); have RH8 := Lib.hid (RH7.out.below hb RH7.out.lt); have R28 := Lib.hid (R27.out.below hb R27.out.lt); have O8 := Lib.hid (O7.out.kept hb); have B8 := Lib.hid (B7.out.trans (hb.mono B7.out.size)); have Z8 := Lib.hid (Nat.le_trans Z7.out hb.size); clear c0 c1 c2 c3' c4 d0 d1 d2 d3 d4 d5; obtain ⟨c0, c1, c2, c3', c4⟩ := R18.out.l5; obtain ⟨d0, d1, d2, d3, d4, d5⟩ := RH8.out.h6; clear hsl hb hz)
            | (go_at_call 146; with_reducible refine (rsum q _ 3 3 [u, h', i3] _ SL.out).mono ?_; rw [HS.out]; rintro x w' ⟨rfl, rfl⟩)
            | ((with_reducible refine store_cell (o := ⟨none, _, _, _, _, _⟩) rfl _ (.tmp 49) _ rfl w.heap.size 2 (.int .i64 (h' + i3)) ?_ ?_ rfl rfl 50 _ R18.out ?_ ?_ ?_); (focus go_simp); (focus (go_simp; first | done | rfl | exact vint (by omega))); (focus (kernel_rfl)); (focus (show 2 < 5; decide)); intro wA hr hu; have R1A := Lib.hid (show Row wA w.heap.size 50 (ldC q u (h' + i3) nx a3 n c3) from hr); have RHA := Lib.hid (RH8.out.upd hu (Nat.ne_of_gt B1S.out)); have R2A := Lib.hid (R28.out.upd hu (Nat.ne_of_gt (Nat.lt_trans B1S.out B2S.out))); have OA := Lib.hid (O8.out.upd_lt hu R13.out.lt); have BA := Lib.hid (B8.out.trans (hu.below (Nat.le_refl _))); have ZA := Lib.hid (show w3.heap.size ≤ wA.heap.size by have := hu.size; have := Z8.out; omega); clear c0 c1 c2 c3' c4 d0 d1 d2 d3 d4 d5; obtain ⟨c0, c1, c2, c3', c4⟩ := R1A.out.l5; obtain ⟨d0, d1, d2, d3, d4, d5⟩ := RHA.out.h6; clear hr hu)
            | ((with_reducible refine store_cell (o := ⟨none, _, _, _, _, _⟩) rfl _ (.tmp 53) _ rfl w.heap.size 3 (.int .i64 (nx + 1)) ?_ ?_ rfl rfl 50 _ R1A.out ?_ ?_ ?_); (focus go_simp); (focus (go_simp; first | done | rfl | exact vint (by omega))); (focus (kernel_rfl)); (focus (show 3 < 5; decide)); intro wB hr hu; have R1B := Lib.hid (show Row wB w.heap.size 50 (ldC q u (h' + i3) (nx + 1) a3 n c3) from hr); have RHB := Lib.hid (RHA.out.upd hu (Nat.ne_of_gt B1S.out)); have R2B := Lib.hid (R2A.out.upd hu (Nat.ne_of_gt (Nat.lt_trans B1S.out B2S.out))); have OB := Lib.hid (OA.out.upd_lt hu R13.out.lt); have BB := Lib.hid (BA.out.trans (hu.below (Nat.le_refl _))); have ZB := Lib.hid (show w3.heap.size ≤ wB.heap.size by have := hu.size; have := ZA.out; omega); clear c0 c1 c2 c3' c4 d0 d1 d2 d3 d4 d5; obtain ⟨c0, c1, c2, c3', c4⟩ := R1B.out.l5; obtain ⟨d0, d1, d2, d3, d4, d5⟩ := RHB.out.h6; clear hr hu))
          refine region_h (fun v => Row v w.heap.size 50 (ldC q u (h' + i3) (nx + 1) a3 n c3) ∧ Row v w1.heap.size 52 [.int .i64 nx, .int .i64 i2, .int .i64 i3, .int .i64 i4, .int .i64 i5, .string sp]) (by kernel_rfl) (by kernel_rfl) (And.intro (R1B.out.drewN 1) (RHB.out.drewN 1)) ?_
          have R1A := R1B
          have RHA := RHB
          obtain ⟨wd, hwd⟩ : ∃ wd, wB.drew = wd := ⟨_, rfl⟩
          have D0 : Hid (Below wB.heap.size wB wd) := Lib.hid (by rw [← hwd]; exact (Below.refl _ _).drew)
          rw [hwd]
          clear hwd
          have R1B := Lib.hid (R1B.out.below D0.out R1B.out.lt)
          have RHB := Lib.hid (RHB.out.below D0.out RHB.out.lt)
          have R2B := Lib.hid (R2B.out.below D0.out R2B.out.lt)
          have OB := Lib.hid (OB.out.kept D0.out)
          have BB := Lib.hid (BB.out.trans (D0.out.mono BB.out.size))
          have ZB := Lib.hid (show w3.heap.size ≤ wd.heap.size from Nat.le_trans ZB.out D0.out.size)
          (refine h_read 0 rfl (by kernel_rfl) (by kernel_rfl) (h_free rfl) ?_ ?_ ?_; rotate_left; (focus (intro v hv; refine run_cells 50 (.tmp 2) ?_ w.heap.size 0 ?_ (ldC q u (h' + i3) (nx + 1) a3 n c3) _ (fun j' u' hj => by rw [Nat.zero_add, hv.1.cellV]; exact hj) Try.underlying50 rfl ld_size; (focus rfl); go_simp)); go_simp)
          (refine h_read 1 rfl (by kernel_rfl) (by kernel_rfl) (h_free rfl) ?_ ?_ ?_; rotate_left; (focus (intro v hv; go_simp; rfl)); go_simp)
          (refine h_read 2 rfl (by kernel_rfl) (by kernel_rfl) (h_free rfl) ?_ ?_ ?_; rotate_left; (focus (intro v hv; have q0 := World.cell?_of_block (a := ⟨w.heap.size, 4, none⟩) (hv.1.trans R1A.out.symm); have q1 := World.cell?_of_block (a := ⟨w1.heap.size, 0, none⟩) (hv.2.trans RHA.out.symm); rw [c4] at q0; rw [d0] at q1; go_simp; rfl)); go_simp)
          (refine h_read 3 rfl (by kernel_rfl) (by kernel_rfl) (h_free rfl) ?_ ?_ ?_; rotate_left; (focus (intro v hv; refine run_cells 52 (.tmp 3) ?_ w1.heap.size 0 ?_ [.int .i64 nx, .int .i64 i2, .int .i64 i3, .int .i64 i4, .int .i64 i5, .string sp] _ (fun j' u' hj => by rw [Nat.zero_add, hv.2.cellV]; exact hj) Try.underlying52 rfl hd_size; (focus rfl); go_simp)); go_simp)
          (refine h_read 7 rfl (by kernel_rfl) (by kernel_rfl) (h_free rfl) ?_ ?_ ?_; rotate_left; (focus (intro v hv; go_simp; rfl)); go_simp)
          (refine h_read 8 rfl (by kernel_rfl) (by kernel_rfl) (h_free rfl) ?_ ?_ ?_; rotate_left; (focus (intro v hv; have q0 := World.cell?_of_block (a := ⟨w.heap.size, 4, none⟩) (hv.1.trans R1A.out.symm); have q1 := World.cell?_of_block (a := ⟨w1.heap.size, 0, none⟩) (hv.2.trans RHA.out.symm); rw [c4] at q0; rw [d0] at q1; go_simp; rfl)); go_simp)
          (refine h_list 4 rfl (by kernel_rfl) ?_; intro K hK)
          refine build_ls hdOk hd_fill rfl _ rfl ⟨nx, i2, i3, i4, i5, sp⟩ (by go_simp; first | done | rfl) FX.out (by decide) ?_
          intro w12 hl hb hz
          have QC := Lib.hid hl
          have R1C := Lib.hid (R1B.out.below hb R1B.out.lt)
          have RHC := Lib.hid (RHB.out.below hb RHB.out.lt)
          have R2C := Lib.hid (R2B.out.below hb R2B.out.lt)
          have OC := Lib.hid (OB.out.kept hb)
          have BC := Lib.hid (BB.out.trans (hb.mono BB.out.size))
          have ZC := Lib.hid (Nat.le_trans ZB.out hb.size)
          clear hl hb hz
          refine hK _ _ ⟨R1C.out, RHC.out⟩ ?_
          go_simp
          (refine h_list 5 rfl (by kernel_rfl) ?_; intro K hK)
          refine append_ls hdOk rfl _ _ rfl w3.heap.size _ L (by go_simp; first | done | rfl) OC.out _ 1 1 [⟨nx, i2, i3, i4, i5, sp⟩] (by go_simp; first | done | rfl) QC.out (by rw [HL.out]; omega) ZC.out ?_
          intro v7 w13 hN hb2 hg2 hv2
          have R1D := Lib.hid (R1C.out.below hb2 R13.out.lt)
          have RHD := Lib.hid (RHC.out.below hb2 RH3.out.lt)
          have R2D := Lib.hid (R2C.out.below hb2 R23.out.lt)
          have BD := Lib.hid (BC.out.trans (hb2.mono B3.out.size))
          obtain ⟨a7, c7, rfl, -, -⟩ := hN.ls hdOk (HFN.out)
          have OD := Lib.hid hN
          clear hN hb2 hg2 hv2
          refine hK _ _ ⟨R1D.out, RHD.out⟩ ?_
          go_simp
          (refine h_call 6 rfl (by kernel_rfl) (h_free rfl) 147 ?_ ?_ ?_; rotate_left; (focus (go_simp; rfl)))
          refine (ywith q u (h' + i3) (nx + 1) a3 n c3 a7 _ c7 w13).mono ?_
          rintro x w14 ⟨rfl, hb⟩
          have R1E := Lib.hid (R1D.out.below hb R1D.out.lt)
          have RHE := Lib.hid (RHD.out.below hb RHD.out.lt)
          have R2E := Lib.hid (R2D.out.below hb R2D.out.lt)
          have OE := Lib.hid (OD.out.kept hb)
          have BE := Lib.hid (BD.out.trans (hb.mono BD.out.size))
          clear hb
          refine ⟨_, rfl, ⟨R1E.out, RHE.out⟩, ?_⟩
          go_simp
          (refine h_list 9 rfl (by kernel_rfl) ?_; intro K hK)
          refine store_row rfl _ _ _ rfl w2.heap.size (ldC q u (h' + i3) (nx + 1) a7 (L ++ [(⟨nx, i2, i3, i4, i5, sp⟩ : Hd)]).length c7) (by go_simp) (by go_simp) 50 _ R2E.out LZS.out rfl (ld_one _ _ _ _ _ _ _) ?_
          intro w15 hr hu
          have R1F := Lib.hid (R1E.out.upd hu (Nat.ne_of_lt (Nat.lt_trans B1S.out B2S.out)))
          have RHF := Lib.hid (RHE.out.upd hu (Nat.ne_of_lt B2S.out))
          have R2F := Lib.hid hr
          have OF := Lib.hid (OE.out.upd_lt hu R23.out.lt)
          have BF := Lib.hid (BE.out.trans (hu.below B2.out.size))
          clear hr hu
          refine hK _ _ ⟨R1F.out, RHF.out⟩ ?_
          go_simp
          (refine h_read 10 rfl (by kernel_rfl) (by kernel_rfl) (h_free rfl) ?_ ?_ ?_; rotate_left; (focus (intro v hv; go_simp; rfl)); go_simp)
          (refine h_read 11 rfl (by kernel_rfl) (by kernel_rfl) (h_free rfl) ?_ ?_ ?_; rotate_left; (focus (intro v hv; go_simp; rfl)); go_simp)
          refine h_done (by kernel_rfl) ?_
          go_wp2_with fail
          exact bodyPost_ret (results_row_tmp2 rfl _ _ w2.heap.size 50 _ _ _ (by go_simp) R2F.out Try.underlying50 rfl LZS.out) rfl ⟨_, rfl, ⟨_, _, _, rfl, (hd_out OF.out rfl HFN.out)⟩, BF.out⟩
end Go.Proofs.Ytiopcojkdglapaa.W
