/- LAYER 19 (ledger): Quota, Release, Spend of the reference. -/
import Derived.Test.YtiopcojkdglapaaLdW
import Derived.Test.YtiopcojkdglapaaNumsWc
import Derived.Test.YtiopcojkdglapaaLn
set_option linter.unusedSimpArgs false
set_option linter.unusedVariables false
namespace Go.Proofs.Ytiopcojkdglapaa.W
open Go Go.ChangeShapes Go.WideShapes Go.ChangeAt Go.RowKit
open Go.Proofs.Ytiopcojkdglapaa.P (enc dec)
open Go.Proofs.Ytiopcojkdglapaa.S

theorem infoInt19 : (Try.prog.info? 3).map (fun i => (i.zero, i.size, i.bytes)) = some (some (.int .i64 0), 1, 8) := by kernel_rfl
theorem wf64 {i : Int} (h : -9223372036854775808 ≤ i ∧ i ≤ 9223372036854775807) : (Lit.int .i64 i).wf = true := by
  simp [Lit.wf, IntKind.min, IntKind.max, IntKind.bits, IntKind.signed]; omega
set_option maxRecDepth 100000 in
theorem build_i2 {w : World} {ops : Array Oper} {rest : List Oper} {o : Oper} {a : Act} {Q : Exit → Act → World → Prop} (hgd : o.guard = none) (x y : Operand)
    (ho : o.op = .buildSlice 76 2 #[(0, x), (1, y)]) (i j : Int) (hx : a.eval x = .int .i64 i) (hy : a.eval y = .int .i64 j) (hi : -9223372036854775808 ≤ i ∧ i ≤ 9223372036854775807) (hj : -9223372036854775808 ≤ j ∧ j ≤ 9223372036854775807)
    (hk : ∀ w', Sl .i64 w' (some ⟨w.heap.size, 0, none⟩) 2 [i, j] → Below w.heap.size w w' → w'.heap.size = w.heap.size + 1 → wpList Try.prog ops Q rest (a.put o.dst (.slice (some ⟨w.heap.size, 0, none⟩) 2 2)) w') : wpList Try.prog ops Q (o :: rest) a w := by
  obtain ⟨i0, hi0, hz0, hz1, hz2⟩ := info_parts infoInt19
  refine wpList_buildSlice hgd 76 3 2 _ ho #[.int .i64 i, .int .i64 j] i0 _ Try.underlying76 hi0 hz0 (by rw [hz1]; decide) (by rw [hz1]; decide) (by rw [hz1]; simp only [List.map_toArray, List.map_cons, List.map_nil, hx, hy]; go_simp; first | done | rfl) ?_
  have hr := Row.new w 3 [.int .i64 i, .int .i64 j]
  refine hk _ ⟨rfl, by decide, ?_, .inr ⟨_, 0, rfl, by simp, ?_⟩⟩ ((Below.refl _ _).alloc (Nat.le_refl _) _) (by simp)
  · intro n hn
    simp at hn
    rcases hn with rfl | rfl
    · exact wf64 hi
    · exact wf64 hj
  · intro k hk
    rw [Nat.zero_add]
    have hc := hr.cellV k
    rcases k with _ | _ | k
    · exact hc
    · exact hc
    · omega
set_option maxRecDepth 100000 in
theorem build_i3 {w : World} {ops : Array Oper} {rest : List Oper} {o : Oper} {a : Act} {Q : Exit → Act → World → Prop} (hgd : o.guard = none) (x y z : Operand)
    (ho : o.op = .buildSlice 76 3 #[(0, x), (1, y), (2, z)]) (i j k : Int) (hx : a.eval x = .int .i64 i) (hy : a.eval y = .int .i64 j) (hz : a.eval z = .int .i64 k) (hi : -9223372036854775808 ≤ i ∧ i ≤ 9223372036854775807) (hj : -9223372036854775808 ≤ j ∧ j ≤ 9223372036854775807) (hk0 : -9223372036854775808 ≤ k ∧ k ≤ 9223372036854775807)
    (hk : ∀ w', Sl .i64 w' (some ⟨w.heap.size, 0, none⟩) 3 [i, j, k] → Below w.heap.size w w' → w'.heap.size = w.heap.size + 1 → wpList Try.prog ops Q rest (a.put o.dst (.slice (some ⟨w.heap.size, 0, none⟩) 3 3)) w') : wpList Try.prog ops Q (o :: rest) a w := by
  obtain ⟨i0, hi0, hz0, hz1, hz2⟩ := info_parts infoInt19
  refine wpList_buildSlice hgd 76 3 3 _ ho #[.int .i64 i, .int .i64 j, .int .i64 k] i0 _ Try.underlying76 hi0 hz0 (by rw [hz1]; decide) (by rw [hz1]; decide) (by rw [hz1]; simp only [List.map_toArray, List.map_cons, List.map_nil, hx, hy, hz]; go_simp; first | done | rfl) ?_
  have hr := Row.new w 3 [.int .i64 i, .int .i64 j, .int .i64 k]
  refine hk _ ⟨rfl, by decide, ?_, .inr ⟨_, 0, rfl, by simp, ?_⟩⟩ ((Below.refl _ _).alloc (Nat.le_refl _) _) (by simp)
  · intro n hn
    simp at hn
    rcases hn with rfl | rfl | rfl
    · exact wf64 hi
    · exact wf64 hj
    · exact wf64 hk0
  · intro k hk
    rw [Nat.zero_add]
    have hc := hr.cellV k
    rcases k with _ | _ | _ | k
    · exact hc
    · exact hc
    · exact hc
    · omega
theorem sum_2 {m x y : Int} (hx : 0 ≤ x ∧ x ≤ 1099511627776) (hy : 0 ≤ y ∧ y ≤ 1099511627776) : (sumG m 0 [x, y]).2 = if m < x + y then 8 else 0 := by
  simp only [sumG]
  (repeat' split) <;> first | rfl | (exfalso; omega)
theorem sum_3 {m x y z : Int} (hx : 0 ≤ x ∧ x ≤ 1099511627776) (hy : 0 ≤ y ∧ y ≤ 1099511627776) (hz : 0 ≤ z ∧ z ≤ 1099511627776) : (sumG m 0 [x, y, z]).2 = if m < x + y + z then 8 else 0 := by
  simp only [sumG]
  (repeat' split) <;> first | rfl | (exfalso; omega)
set_option maxRecDepth 100000 in
set_option maxHeartbeats 8000000 in
theorem yquota (v : Value) (l : Ld) (b : Int) (w : World) (h : LdV w v l) (hok : OkL l) :
    Calls Try.prog 103 #[v, .int .i64 b] w fun x w' => ∃ v', x = .returned (.tuple #[v', .int .i64 (l.quota b).2]) ∧ LdV w' v' (l.quota b).1 ∧ Below w.heap.size w w' := by
  obtain ⟨a, n, c, rfl, h⟩ := h
  have hn8 : n ≤ 8 := by rw [← h.hlen]; exact hok.len
  have hu := hok.u
  have hq := hok.q
  have hh := hok.h
  have hle := hok.le
  skip
  obtain ⟨q, u, h', nx, L⟩ := l
  dsimp only at h hok hu hq hh hle ⊢
  have LZS := Lib.hid ld_size
  have LZ := Lib.hid ld_zero
  have H := Lib.hid h
  have HL := Lib.hid h.hlen
  have HF := Lib.hid (h.hfit)
  have HC := Lib.hid (fun w' h => ycopied q u h' nx a n c L w' h (by omega))
  clear h hok
  obtain ⟨bv, hbv⟩ : ∃ v, in64 b 0 1099511627776 = v := ⟨_, rfl⟩
  have HB := Lib.hid hbv
  have HA := Lib.hid (show Ld.quota ⟨q, u, h', nx, L⟩ b = if bv = false then (⟨q, u, h', nx, L⟩, 1) else if b < u + h' then (⟨q, u, h', nx, L⟩, 22) else (⟨b, u, h', nx, L⟩, 0) by rw [← hbv]; rfl)
  rcases bv with _ | _
  · clear hbv
    rw [HA.out]
    simp only [if_true]
    go_enter Try.func103, Try.ntmps103
    go_wp2_with (first
      | ((with_reducible refine box_row (o := ⟨some 2, _, _, _, _, _⟩) rfl _ _ rfl (ldC q u h' nx a n c) rfl ?_); intro w1 hr hb hz; have R1 := Lib.hid hr; have B1 := Lib.hid hb; have HZ1 := Lib.hid hz; have B1S := Lib.hid (show w.heap.size < w1.heap.size by omega); clear hr hb hz)
      | ((with_reducible refine alloc_row (o := ⟨some 4, _, _, _, _, _⟩) rfl _ rfl _ LZ.out ?_); intro w2 hr hb hz; have R2 := Lib.hid hr; have R1 := Lib.hid (R1.out.below hb R1.out.lt); have B2 := Lib.hid (B1.out.trans (hb.mono B1.out.size)); have HZ2 := Lib.hid hz; clear hr hb hz)
      | ((with_reducible refine load_row (o := ⟨some 8, _, _, _, _, _⟩) rfl _ _ rfl w.heap.size ?_ _ (ldC q u h' nx a n c) _ R1.out Try.underlying50 rfl ?_ ?_); (focus go_simp); (focus (exact LZS.out)))
      | (go_at_call 145; (with_reducible refine (HC.out w2 (H.out.mono hdOk B2.out)).mono ?_); rintro x w3 ⟨a3, c3, rfl, hown, hb⟩; have O3s := Lib.hid hown; have R13 := Lib.hid (R1.out.below hb R1.out.lt); have R23 := Lib.hid (R2.out.below hb R2.out.lt); have B3 := Lib.hid (B2.out.trans (hb.mono B2.out.size)); clear hown hb)
      | ((with_reducible refine store_row (o := ⟨none, _, _, _, _, _⟩) rfl _ (.tmp 2) _ rfl w.heap.size (ldC q u h' nx a3 n c3) ?_ ?_ 50 _ R13.out ?_ ?_ ?_ ?_); (focus go_simp); (focus (first | (go_simp; done) | (go_simp; rfl))); (focus (exact LZS.out)); (focus rfl); (focus (exact ld_one _ _ _ _ _ _ _)); intro w4 hr4 hu4; have R14 := Lib.hid hr4; obtain ⟨c0, c1, c2, c3', c4⟩ := hr4.l5; have R24 := Lib.hid (R23.out.upd hu4 (Nat.ne_of_gt B1S.out)); have O4 := Lib.hid (O3s.out.upd_lt hu4 R1.out.lt); have B4 := Lib.hid (B3.out.trans (hu4.below (Nat.le_refl _))); clear hr4 hu4)
      | (go_at_call 94; with_reducible refine (yin b 0 1099511627776 _).mono ?_; rw [HB.out]; rintro x w' ⟨rfl, rfl⟩)
      | ((with_reducible refine load_row (o := ⟨some 13, _, _, _, _, _⟩) rfl _ _ rfl w.heap.size ?_ _ (ldC q u h' nx a3 n c3) _ R14.out Try.underlying50 rfl ?_ ?_); (focus go_simp); (focus (exact LZS.out)))
      | ((with_reducible refine store_row (o := ⟨none, _, _, _, _, _⟩) rfl _ (.tmp 4) _ rfl w1.heap.size (ldC q u h' nx a3 n c3) ?_ ?_ 50 _ R24.out ?_ ?_ ?_ ?_); (focus go_simp); (focus (first | (go_simp; done) | (go_simp; rfl))); (focus (exact LZS.out)); (focus rfl); (focus (exact ld_one _ _ _ _ _ _ _)); intro w5 hr5 hu5; have R25 := Lib.hid hr5; have O5 := Lib.hid (O4.out.upd_lt hu5 R2.out.lt); have B5 := Lib.hid (B4.out.trans (hu5.below B1.out.size)); clear hr5 hu5))
    exact bodyPost_ret (results_row_tmp rfl _ _ w1.heap.size 50 _ _ _ (by go_simp) R25.out Try.underlying50 rfl LZS.out) rfl ⟨_, rfl, ⟨_, _, _, rfl, (hd_out O5.out HL.out HF.out)⟩, B5.out⟩
  · have hb := in64_iff.1 hbv
    have hs2 := sum_2 (m := b) hu hh
    clear hbv
    rw [HA.out]
    simp only [Bool.true_eq_false, if_false]
    obtain ⟨s1, hs1⟩ : ∃ s, (sumG b 0 [u, h']).1 = s := ⟨_, rfl⟩
    by_cases hlt : b < u + h'
    · rw [if_pos hlt] at hs2 ⊢
      have HS := Lib.hid (show sumG b 0 [u, h'] = (s1, 8) from Prod.ext hs1 hs2)
      clear hs1 hs2
      go_enter Try.func103, Try.ntmps103
      go_wp2_with (first
        | ((with_reducible refine box_row (o := ⟨some 2, _, _, _, _, _⟩) rfl _ _ rfl (ldC q u h' nx a n c) rfl ?_); intro w1 hr hb hz; have R1 := Lib.hid hr; have B1 := Lib.hid hb; have HZ1 := Lib.hid hz; have B1S := Lib.hid (show w.heap.size < w1.heap.size by omega); clear hr hb hz)
        | ((with_reducible refine alloc_row (o := ⟨some 4, _, _, _, _, _⟩) rfl _ rfl _ LZ.out ?_); intro w2 hr hb hz; have R2 := Lib.hid hr; have R1 := Lib.hid (R1.out.below hb R1.out.lt); have B2 := Lib.hid (B1.out.trans (hb.mono B1.out.size)); have HZ2 := Lib.hid hz; clear hr hb hz)
        | ((with_reducible refine load_row (o := ⟨some 8, _, _, _, _, _⟩) rfl _ _ rfl w.heap.size ?_ _ (ldC q u h' nx a n c) _ R1.out Try.underlying50 rfl ?_ ?_); (focus go_simp); (focus (exact LZS.out)))
        | (go_at_call 145; (with_reducible refine (HC.out w2 (H.out.mono hdOk B2.out)).mono ?_); rintro x w3 ⟨a3, c3, rfl, hown, hb⟩; have O3s := Lib.hid hown; have R13 := Lib.hid (R1.out.below hb R1.out.lt); have R23 := Lib.hid (R2.out.below hb R2.out.lt); have B3 := Lib.hid (B2.out.trans (hb.mono B2.out.size)); clear hown hb)
        | ((with_reducible refine store_row (o := ⟨none, _, _, _, _, _⟩) rfl _ (.tmp 2) _ rfl w.heap.size (ldC q u h' nx a3 n c3) ?_ ?_ 50 _ R13.out ?_ ?_ ?_ ?_); (focus go_simp); (focus (first | (go_simp; done) | (go_simp; rfl))); (focus (exact LZS.out)); (focus rfl); (focus (exact ld_one _ _ _ _ _ _ _)); intro w4 hr4 hu4; have R14 := Lib.hid hr4; obtain ⟨c0, c1, c2, c3', c4⟩ := hr4.l5; have R24 := Lib.hid (R23.out.upd hu4 (Nat.ne_of_gt B1S.out)); have O4 := Lib.hid (O3s.out.upd_lt hu4 R1.out.lt); have B4 := Lib.hid (B3.out.trans (hu4.below (Nat.le_refl _))); clear hr4 hu4)
        | (go_at_call 94; with_reducible refine (yin b 0 1099511627776 _).mono ?_; rw [HB.out]; rintro x w' ⟨rfl, rfl⟩)
        | ((with_reducible refine build_i2 (o := ⟨some 20, _, _, _, _, _⟩) rfl _ _ rfl u h' ?_ ?_ ?_ ?_ ?_); (focus (first | (go_simp; done) | (go_simp; rfl))); (focus (first | (go_simp; done) | (go_simp; rfl))); (focus (constructor <;> omega)); (focus (constructor <;> omega)); intro w5 hsl hb hz; have SL := Lib.hid hsl; have R15 := Lib.hid (R14.out.below hb R14.out.lt); have R25 := Lib.hid (R24.out.below hb R24.out.lt); have O5 := Lib.hid (O4.out.kept hb); have B5 := Lib.hid (B4.out.trans (hb.mono B4.out.size)); clear hsl hb hz)
        | (go_at_call 146; with_reducible refine (rsum b _ 2 2 [u, h'] _ SL.out).mono ?_; rw [HS.out]; rintro x w' ⟨rfl, rfl⟩)
        | ((with_reducible refine load_row (o := ⟨some 26, _, _, _, _, _⟩) rfl _ _ rfl w.heap.size ?_ _ (ldC q u h' nx a3 n c3) _ R15.out Try.underlying50 rfl ?_ ?_); (focus go_simp); (focus (exact LZS.out)))
        | ((with_reducible refine store_row (o := ⟨none, _, _, _, _, _⟩) rfl _ (.tmp 4) _ rfl w1.heap.size (ldC q u h' nx a3 n c3) ?_ ?_ 50 _ R25.out ?_ ?_ ?_ ?_); (focus go_simp); (focus (first | (go_simp; done) | (go_simp; rfl))); (focus (exact LZS.out)); (focus rfl); (focus (exact ld_one _ _ _ _ _ _ _)); intro w6 hr6 hu6; have R26 := Lib.hid hr6; have O6 := Lib.hid (O5.out.upd_lt hu6 R2.out.lt); have B6 := Lib.hid (B5.out.trans (hu6.below B1.out.size)); clear hr6 hu6))
      exact bodyPost_ret (results_row_tmp rfl _ _ w1.heap.size 50 _ _ _ (by go_simp) R26.out Try.underlying50 rfl LZS.out) rfl ⟨_, rfl, ⟨_, _, _, rfl, (hd_out O6.out HL.out HF.out)⟩, B6.out⟩
    · rw [if_neg hlt] at hs2 ⊢
      have HS := Lib.hid (show sumG b 0 [u, h'] = (s1, 0) from Prod.ext hs1 hs2)
      clear hs1 hs2
      go_enter Try.func103, Try.ntmps103
      go_wp2_with (first
        | ((with_reducible refine box_row (o := ⟨some 2, _, _, _, _, _⟩) rfl _ _ rfl (ldC q u h' nx a n c) rfl ?_); intro w1 hr hb hz; have R1 := Lib.hid hr; have B1 := Lib.hid hb; have HZ1 := Lib.hid hz; have B1S := Lib.hid (show w.heap.size < w1.heap.size by omega); clear hr hb hz)
        | ((with_reducible refine alloc_row (o := ⟨some 4, _, _, _, _, _⟩) rfl _ rfl _ LZ.out ?_); intro w2 hr hb hz; have R2 := Lib.hid hr; have R1 := Lib.hid (R1.out.below hb R1.out.lt); have B2 := Lib.hid (B1.out.trans (hb.mono B1.out.size)); have HZ2 := Lib.hid hz; clear hr hb hz)
        | ((with_reducible refine load_row (o := ⟨some 8, _, _, _, _, _⟩) rfl _ _ rfl w.heap.size ?_ _ (ldC q u h' nx a n c) _ R1.out Try.underlying50 rfl ?_ ?_); (focus go_simp); (focus (exact LZS.out)))
        | (go_at_call 145; (with_reducible refine (HC.out w2 (H.out.mono hdOk B2.out)).mono ?_); rintro x w3 ⟨a3, c3, rfl, hown, hb⟩; have O3s := Lib.hid hown; have R13 := Lib.hid (R1.out.below hb R1.out.lt); have R23 := Lib.hid (R2.out.below hb R2.out.lt); have B3 := Lib.hid (B2.out.trans (hb.mono B2.out.size)); clear hown hb)
        | ((with_reducible refine store_row (o := ⟨none, _, _, _, _, _⟩) rfl _ (.tmp 2) _ rfl w.heap.size (ldC q u h' nx a3 n c3) ?_ ?_ 50 _ R13.out ?_ ?_ ?_ ?_); (focus go_simp); (focus (first | (go_simp; done) | (go_simp; rfl))); (focus (exact LZS.out)); (focus rfl); (focus (exact ld_one _ _ _ _ _ _ _)); intro w4 hr4 hu4; have R14 := Lib.hid hr4; obtain ⟨c0, c1, c2, c3', c4⟩ := hr4.l5; have R24 := Lib.hid (R23.out.upd hu4 (Nat.ne_of_gt B1S.out)); have O4 := Lib.hid (O3s.out.upd_lt hu4 R1.out.lt); have B4 := Lib.hid (B3.out.trans (hu4.below (Nat.le_refl _))); clear hr4 hu4)
        | (go_at_call 94; with_reducible refine (yin b 0 1099511627776 _).mono ?_; rw [HB.out]; rintro x w' ⟨rfl, rfl⟩)
        | ((with_reducible refine build_i2 (o := ⟨some 20, _, _, _, _, _⟩) rfl _ _ rfl u h' ?_ ?_ ?_ ?_ ?_); (focus (first | (go_simp; done) | (go_simp; rfl))); (focus (first | (go_simp; done) | (go_simp; rfl))); (focus (constructor <;> omega)); (focus (constructor <;> omega)); intro w5 hsl hb hz; have SL := Lib.hid hsl; have R15 := Lib.hid (R14.out.below hb R14.out.lt); have R25 := Lib.hid (R24.out.below hb R24.out.lt); have O5 := Lib.hid (O4.out.kept hb); have B5 := Lib.hid (B4.out.trans (hb.mono B4.out.size)); clear hsl hb hz)
        | (go_at_call 146; with_reducible refine (rsum b _ 2 2 [u, h'] _ SL.out).mono ?_; rw [HS.out]; rintro x w' ⟨rfl, rfl⟩)
        | ((with_reducible refine store_cell (o := ⟨none, _, _, _, _, _⟩) rfl _ (.tmp 28) _ rfl w.heap.size 0 (.int .i64 b) ?_ ?_ rfl rfl 50 _ R15.out ?_ ?_ ?_); (focus go_simp); (focus (go_simp; first | done | rfl | exact vint (by omega))); (focus (kernel_rfl)); (focus (show 0 < 5; decide)); intro w6 hr hu; have R16 := Lib.hid (show Row w6 w.heap.size 50 (ldC b u h' nx a3 n c3) from hr); have R26 := Lib.hid (R25.out.upd hu (Nat.ne_of_gt B1S.out)); have O6 := Lib.hid (O5.out.upd_lt hu R1.out.lt); have B6 := Lib.hid (B5.out.trans (hu.below (Nat.le_refl _))); clear hr hu)
        | ((with_reducible refine load_row (o := ⟨some 29, _, _, _, _, _⟩) rfl _ _ rfl w.heap.size ?_ _ (ldC b u h' nx a3 n c3) _ R16.out Try.underlying50 rfl ?_ ?_); (focus go_simp); (focus (exact LZS.out)))
        | ((with_reducible refine store_row (o := ⟨none, _, _, _, _, _⟩) rfl _ (.tmp 4) _ rfl w1.heap.size (ldC b u h' nx a3 n c3) ?_ ?_ 50 _ R26.out ?_ ?_ ?_ ?_); (focus go_simp); (focus (first | (go_simp; done) | (go_simp; rfl))); (focus (exact LZS.out)); (focus rfl); (focus (exact ld_one _ _ _ _ _ _ _)); intro w7 hr7 hu7; have R27 := Lib.hid hr7; have O7 := Lib.hid (O6.out.upd_lt hu7 R2.out.lt); have B7 := Lib.hid (B6.out.trans (hu7.below B1.out.size)); clear hr7 hu7))
      exact bodyPost_ret (results_row_tmp rfl _ _ w1.heap.size 50 _ _ _ (by go_simp) R27.out Try.underlying50 rfl LZS.out) rfl ⟨_, rfl, ⟨_, _, _, rfl, (hd_out O7.out HL.out HF.out)⟩, B7.out⟩
theorem hd_fill (y : Hd) : Instr.fill (fun i => some (i * hdE.k, hdE.k)) ((Array.range (1 * hdE.k)).map (hdE.z.cells[· % hdE.z.cells.size]!)) [(0, .agg (hdE.cells y).toArray)] = some (hdE.cells y).toArray := by
  obtain ⟨i1, i2, i3, i4, i5, sp⟩ := y
  kernel_rfl
theorem drop_len : ∀ (L : List Hd) (i : Int), (dropH L i).length ≤ L.length := fun L i => (dropH_sub L i).length_le
theorem find_app2 : ∀ (A : List Hd) (s : Hd) (i : Int), (findH (A ++ [s]) i).2 = ((findH A i).2 || decide (s.id = i))
  | [], s, i => by simp only [List.nil_append, findH]; split <;> simp [*]
  | x :: A, s, i => by
    simp only [List.cons_append, findH]
    split
    · simp
    · exact find_app2 A s i
theorem drop_app2 : ∀ (A : List Hd) (s : Hd) (i : Int), dropH (A ++ [s]) i = if (findH A i).2 = false ∧ s.id = i then dropH A i else dropH A i ++ [s]
  | [], s, i => by simp only [List.nil_append, findH, dropH]; split <;> simp [*]
  | x :: A, s, i => by
    simp only [List.cons_append, findH, dropH]
    split
    · simp
    · rw [drop_app2 A s i]; split <;> rfl
theorem drop_next (L : List Hd) (k : Nat) (i : Int) (s : Hd) (hs : L[k]? = some s) : dropH (L.take (k + 1)) i = if (findH (L.take k) i).2 = false ∧ s.id = i then dropH (L.take k) i else dropH (L.take k) i ++ [s] := by
  have hk : k < L.length := (List.getElem?_eq_some_iff.1 hs).1
  rw [List.take_succ_eq_append_getElem hk]
  rw [List.getElem?_eq_getElem hk] at hs
  rw [Option.some.inj hs]
  exact drop_app2 _ s i
theorem find_next (L : List Hd) (k : Nat) (i : Int) (s : Hd) (hs : L[k]? = some s) : (findH (L.take (k + 1)) i).2 = ((findH (L.take k) i).2 || decide (s.id = i)) := by
  have hk : k < L.length := (List.getElem?_eq_some_iff.1 hs).1
  rw [List.take_succ_eq_append_getElem hk]
  rw [List.getElem?_eq_getElem hk] at hs
  rw [Option.some.inj hs]
  exact find_app2 _ s i
set_option maxRecDepth 100000 in
set_option maxHeartbeats 8000000 in
theorem yrelease (v : Value) (l : Ld) (id : Int) (w : World) (h : LdV w v l) (hok : OkL l) :
    Calls Try.prog 97 #[v, .int .i64 id] w fun x w' => ∃ v', x = .returned (.tuple #[v', .int .i64 (l.release id).2]) ∧ LdV w' v' (l.release id).1 ∧ Below w.heap.size w w' := by
  obtain ⟨a, n, c, rfl, h⟩ := h
  have hn8 : n ≤ 8 := by rw [← h.hlen]; exact hok.len
  have hu := hok.u
  have hq := hok.q
  have hh := hok.h
  have hle := hok.le
  have hfb := fun i => found_by (i := i) hok
  obtain ⟨q, u, h', nx, L⟩ := l
  dsimp only at h hok hu hq hh hle ⊢
  have LZS := Lib.hid ld_size
  have LZ := Lib.hid ld_zero
  have H := Lib.hid h
  have HL := Lib.hid h.hlen
  have HF := Lib.hid (h.hfit)
  have HC := Lib.hid (fun w' h => ycopied q u h' nx a n c L w' h (by omega))
  dsimp only at hfb
  clear h hok
  have HSZ := Lib.hid hd_size
  have MZ := Lib.hid hd_zero
  obtain ⟨hd, bv, hfi⟩ : ∃ d v, findH L id = (d, v) := ⟨_, _, rfl⟩
  have HFI := Lib.hid hfi
  have hb2 : bv = true → 0 ≤ hd.by' ∧ hd.by' ≤ h' := fun e => by have := hfb id; rw [hfi] at this; exact this e
  have HA := Lib.hid (show Ld.release ⟨q, u, h', nx, L⟩ id = if bv = false then (⟨q, u, h', nx, L⟩, 6) else (⟨q, u, h' - hd.by', nx, dropH L id⟩, 0) by unfold Ld.release; dsimp only; rw [hfi])
  clear hfi hfb
  rcases bv with _ | _
  · rw [HA.out]
    simp only [if_true]
    clear hb2
    go_enter Try.func97, Try.ntmps97
    go_wp2_with (first
      | ((with_reducible refine box_row (o := ⟨some 2, _, _, _, _, _⟩) rfl _ _ rfl (ldC q u h' nx a n c) rfl ?_); intro w1 hr hb hz; have R1 := Lib.hid hr; have B1 := Lib.hid hb; have HZ1 := Lib.hid hz; have B1S := Lib.hid (show w.heap.size < w1.heap.size by omega); clear hr hb hz)
      | ((with_reducible refine alloc_row (o := ⟨some 4, _, _, _, _, _⟩) rfl _ rfl _ LZ.out ?_); intro w2 hr hb hz; have R2 := Lib.hid hr; have R1 := Lib.hid (R1.out.below hb R1.out.lt); have B2 := Lib.hid (B1.out.trans (hb.mono B1.out.size)); have HZ2 := Lib.hid hz; clear hr hb hz)
      | ((with_reducible refine load_row (o := ⟨some 11, _, _, _, _, _⟩) rfl _ _ rfl w.heap.size ?_ _ (ldC q u h' nx a n c) _ R1.out Try.underlying50 rfl ?_ ?_); (focus go_simp); (focus (exact LZS.out)))
      | (go_at_call 145; (with_reducible refine (HC.out w2 (H.out.mono hdOk B2.out)).mono ?_); rintro x w3 ⟨a3, c3, rfl, hown, hb⟩; have O3s := Lib.hid hown; have R13 := Lib.hid (R1.out.below hb R1.out.lt); have R23 := Lib.hid (R2.out.below hb R2.out.lt); have B3 := Lib.hid (B2.out.trans (hb.mono B2.out.size)); clear hown hb)
      | ((with_reducible refine store_row (o := ⟨none, _, _, _, _, _⟩) rfl _ (.tmp 2) _ rfl w.heap.size (ldC q u h' nx a3 n c3) ?_ ?_ 50 _ R13.out ?_ ?_ ?_ ?_); (focus go_simp); (focus (first | (go_simp; done) | (go_simp; rfl))); (focus (exact LZS.out)); (focus rfl); (focus (exact ld_one _ _ _ _ _ _ _)); intro w4 hr4 hu4; have R14 := Lib.hid hr4; obtain ⟨c0, c1, c2, c3', c4⟩ := hr4.l5; have R24 := Lib.hid (R23.out.upd hu4 (Nat.ne_of_gt B1S.out)); have O4 := Lib.hid (O3s.out.upd_lt hu4 R1.out.lt); have B4 := Lib.hid (B3.out.trans (hu4.below (Nat.le_refl _))); clear hr4 hu4)
      | ((with_reducible refine load_row (o := ⟨some 14, _, _, _, _, _⟩) rfl _ _ rfl w.heap.size ?_ _ (ldC q u h' nx a3 n c3) _ R14.out Try.underlying50 rfl ?_ ?_); (focus go_simp); (focus (exact LZS.out)))
      | (go_at_call 47; (with_reducible refine (yfind q u h' nx a3 n c3 L id w4 (hd_out O4.out HL.out HF.out)).mono ?_); rw [HFI.out]; rintro x w5 ⟨rfl, hb⟩; have R15 := Lib.hid (R14.out.below hb R14.out.lt); have R25 := Lib.hid (R24.out.below hb R24.out.lt); have O5 := Lib.hid (O4.out.kept hb); have B5 := Lib.hid (B4.out.trans (hb.mono B4.out.size)); clear hb c0 c1 c2 c3' c4)
      | ((with_reducible refine alloc_row (o := ⟨some 6, _, _, _, _, _⟩) rfl _ rfl _ MZ.out ?_); intro w6 hr hb hz; have R66 := Lib.hid hr; have R16 := Lib.hid (R15.out.below hb R15.out.lt); have R26 := Lib.hid (R25.out.below hb R25.out.lt); have O6 := Lib.hid (O5.out.kept hb); have B6 := Lib.hid (B5.out.trans (hb.mono B5.out.size)); clear hr hb hz)
      | ((with_reducible refine store_row (o := ⟨none, _, _, _, _, _⟩) rfl _ (.tmp 6) _ rfl w5.heap.size hd.cells ?_ ?_ 52 _ R66.out ?_ ?_ ?_ ?_); (focus go_simp); (focus (first | (go_simp; done) | (go_simp; rfl))); (focus (exact HSZ.out)); (focus rfl); (focus (exact hd_one hd)); intro w7 hr hu; have R67 := Lib.hid hr; have R17 := Lib.hid (R16.out.upd hu (Nat.ne_of_lt R15.out.lt)); have R27 := Lib.hid (R26.out.upd hu (Nat.ne_of_lt R25.out.lt)); obtain ⟨d0, d1, d2, d3, d4, d5⟩ := hr.h6; obtain ⟨c0, c1, c2, c3', c4⟩ := R17.out.l5; have O7 := Lib.hid (O6.out.upd hu (fun e => Nat.lt_irrefl _ (World.ownsRow.lt O5.out _ e).2)); have B7 := Lib.hid (B6.out.trans (hu.below B5.out.size)); clear hr hu)
      | ((with_reducible refine load_row (o := ⟨some 21, _, _, _, _, _⟩) rfl _ _ rfl w.heap.size ?_ _ (ldC q u h' nx a3 n c3) _ R17.out Try.underlying50 rfl ?_ ?_); (focus go_simp); (focus (exact LZS.out)))
      | ((with_reducible refine store_row (o := ⟨none, _, _, _, _, _⟩) rfl _ (.tmp 4) _ rfl w1.heap.size (ldC q u h' nx a3 n c3) ?_ ?_ 50 _ R27.out ?_ ?_ ?_ ?_); (focus go_simp); (focus (first | (go_simp; done) | (go_simp; rfl))); (focus (exact LZS.out)); (focus rfl); (focus (exact ld_one _ _ _ _ _ _ _)); intro w8 hr8 hu8; have R28 := Lib.hid hr8; have O8 := Lib.hid (O7.out.upd_lt hu8 R2.out.lt); have B8 := Lib.hid (B7.out.trans (hu8.below B1.out.size)); clear hr8 hu8))
    exact bodyPost_ret (results_row_tmp rfl _ _ w1.heap.size 50 _ _ _ (by go_simp) R28.out Try.underlying50 rfl LZS.out) rfl ⟨_, rfl, ⟨_, _, _, rfl, (hd_out O8.out HL.out HF.out)⟩, B8.out⟩
  · rw [HA.out]
    simp only [Bool.true_eq_false, if_false]
    have hb := hb2 rfl
    clear hb2
    go_enter Try.func97, Try.ntmps97
    go_wp2_with (first
      | ((with_reducible refine box_row (o := ⟨some 2, _, _, _, _, _⟩) rfl _ _ rfl (ldC q u h' nx a n c) rfl ?_); intro w1 hr hb hz; have R1 := Lib.hid hr; have B1 := Lib.hid hb; have HZ1 := Lib.hid hz; have B1S := Lib.hid (show w.heap.size < w1.heap.size by omega); clear hr hb hz)
      | ((with_reducible refine alloc_row (o := ⟨some 4, _, _, _, _, _⟩) rfl _ rfl _ LZ.out ?_); intro w2 hr hb hz; have R2 := Lib.hid hr; have R1 := Lib.hid (R1.out.below hb R1.out.lt); have B2 := Lib.hid (B1.out.trans (hb.mono B1.out.size)); have HZ2 := Lib.hid hz; clear hr hb hz)
      | ((with_reducible refine load_row (o := ⟨some 11, _, _, _, _, _⟩) rfl _ _ rfl w.heap.size ?_ _ (ldC q u h' nx a n c) _ R1.out Try.underlying50 rfl ?_ ?_); (focus go_simp); (focus (exact LZS.out)))
      | (go_at_call 145; (with_reducible refine (HC.out w2 (H.out.mono hdOk B2.out)).mono ?_); rintro x w3 ⟨a3, c3, rfl, hown, hb⟩; have O3s := Lib.hid hown; have R13 := Lib.hid (R1.out.below hb R1.out.lt); have R23 := Lib.hid (R2.out.below hb R2.out.lt); have B3 := Lib.hid (B2.out.trans (hb.mono B2.out.size)); clear hown hb)
      | ((with_reducible refine store_row (o := ⟨none, _, _, _, _, _⟩) rfl _ (.tmp 2) _ rfl w.heap.size (ldC q u h' nx a3 n c3) ?_ ?_ 50 _ R13.out ?_ ?_ ?_ ?_); (focus go_simp); (focus (first | (go_simp; done) | (go_simp; rfl))); (focus (exact LZS.out)); (focus rfl); (focus (exact ld_one _ _ _ _ _ _ _)); intro w4 hr4 hu4; have R14 := Lib.hid hr4; obtain ⟨c0, c1, c2, c3', c4⟩ := hr4.l5; have R24 := Lib.hid (R23.out.upd hu4 (Nat.ne_of_gt B1S.out)); have O4 := Lib.hid (O3s.out.upd_lt hu4 R1.out.lt); have B4 := Lib.hid (B3.out.trans (hu4.below (Nat.le_refl _))); clear hr4 hu4)
      | ((with_reducible refine load_row (o := ⟨some 14, _, _, _, _, _⟩) rfl _ _ rfl w.heap.size ?_ _ (ldC q u h' nx a3 n c3) _ R14.out Try.underlying50 rfl ?_ ?_); (focus go_simp); (focus (exact LZS.out)))
      | (go_at_call 47; (with_reducible refine (yfind q u h' nx a3 n c3 L id w4 (hd_out O4.out HL.out HF.out)).mono ?_); rw [HFI.out]; rintro x w5 ⟨rfl, hb⟩; have R15 := Lib.hid (R14.out.below hb R14.out.lt); have R25 := Lib.hid (R24.out.below hb R24.out.lt); have O5 := Lib.hid (O4.out.kept hb); have B5 := Lib.hid (B4.out.trans (hb.mono B4.out.size)); clear hb c0 c1 c2 c3' c4)
      | ((with_reducible refine alloc_row (o := ⟨some 6, _, _, _, _, _⟩) rfl _ rfl _ MZ.out ?_); intro w6 hr hb hz; have R66 := Lib.hid hr; have R16 := Lib.hid (R15.out.below hb R15.out.lt); have R26 := Lib.hid (R25.out.below hb R25.out.lt); have O6 := Lib.hid (O5.out.kept hb); have B6 := Lib.hid (B5.out.trans (hb.mono B5.out.size)); clear hr hb hz)
      | ((with_reducible refine store_row (o := ⟨none, _, _, _, _, _⟩) rfl _ (.tmp 6) _ rfl w5.heap.size hd.cells ?_ ?_ 52 _ R66.out ?_ ?_ ?_ ?_); (focus go_simp); (focus (first | (go_simp; done) | (go_simp; rfl))); (focus (exact HSZ.out)); (focus rfl); (focus (exact hd_one hd)); intro w7 hr hu; have R67 := Lib.hid hr; have R17 := Lib.hid (R16.out.upd hu (Nat.ne_of_lt R15.out.lt)); have R27 := Lib.hid (R26.out.upd hu (Nat.ne_of_lt R25.out.lt)); obtain ⟨d0, d1, d2, d3, d4, d5⟩ := hr.h6; obtain ⟨c0, c1, c2, c3', c4⟩ := R17.out.l5; have O7 := Lib.hid (O6.out.upd hu (fun e => Nat.lt_irrefl _ (World.ownsRow.lt O5.out _ e).2)); have B7 := Lib.hid (B6.out.trans (hu.below B5.out.size)); clear hr hu)
      | ((with_reducible refine store_cell (o := ⟨none, _, _, _, _, _⟩) rfl _ (.tmp 27) _ rfl w.heap.size 2 (.int .i64 (h' - hd.by')) ?_ ?_ rfl rfl 50 _ R17.out ?_ ?_ ?_); (focus go_simp); (focus (go_simp; first | done | rfl | exact vint (by omega))); (focus (kernel_rfl)); (focus (show 2 < 5; decide)); intro w8 hr hu; have R18 := Lib.hid (show Row w8 w.heap.size 50 (ldC q u (h' - hd.by') nx a3 n c3) from hr); have R28 := Lib.hid (R27.out.upd hu (Nat.ne_of_gt B1S.out)); have O8 := Lib.hid (O7.out.upd_lt hu R1.out.lt); have B8 := Lib.hid (B7.out.trans (hu.below (Nat.le_refl _))); clear hr hu))
    clear d0 d1 d2 d3 d4 d5 c0 c1 c2 c3' c4
    have OL8 := Lib.hid (hd_out O8.out HL.out HF.out)
    go_loopw [8, 9, 10] (fun vs gn i wr => ∃ (k : Nat), i = .int .i64 (k : Int) ∧ k ≤ n ∧ gn = .bool (findH (L.take k) id).2 ∧ Hid (LsO hdE wr w8.heap.size vs (dropH (L.take k) id)) ∧ Hid (Below w8.heap.size w8 wr)) (fun _ _ i _ => n - (intOf i).toNat)
    case atStart => exact ⟨0, rfl, Nat.zero_le _, rfl, Lib.hid (LsO.nil _ _), Lib.hid (Below.refl _ _)⟩
    case round =>
      obtain ⟨k, rfl, hk, rfl, M, G⟩ := hrel
      have RW := Lib.hid (R18.out.below G.out R18.out.lt)
      obtain ⟨c0, c1, c2, c3', c4⟩ := RW.out.l5
      clear c0 c1 c2 c3'
      have HTL := Lib.hid (drop_len (L.take k) id)
      have hml : (dropH (L.take k) id).length ≤ 8 := by have := HTL.out; rw [List.length_take, HL.out] at this; omega
      obtain ⟨gv, hgv⟩ : ∃ g, (findH (L.take k) id).2 = g := ⟨_, rfl⟩
      rw [hgv]
      have HGV := Lib.hid hgv
      have hmlH := Lib.hid hml
      clear hgv hml
      by_cases hlt : k < n
      · obtain ⟨ba, off, x, e3, hx, hcell, hfx⟩ := OL8.out.at hdOk G.out k hlt
        subst e3
        obtain ⟨i1, i2, i3, i4, i5, sp⟩ := x
        have e0 := hcell 0 _ rfl
        rw [show off + k * hdE.k + 0 = off + k * 6 from rfl] at e0
        have XC := Lib.hid hcell
        have HX := Lib.hid hx
        have FX := Lib.hid hfx
        have DN := Lib.hid (drop_next L k id _ hx)
        have FN := Lib.hid (find_next L k id _ hx)
        have g1 : (0 : Int) ≤ (k : Int) := by omega
        have g2 : (k : Int) < (n : Int) := by omega
        clear hx hcell hfx
        by_cases he : i1 = id
        · rcases gv with _ | _
          · go_wp2_with fail
            go_roundw
            case rel => exact ⟨k + 1, vint (by omega), by omega, by rw [FN.out, HGV.out]; simp [he], by (rw [DN.out, HGV.out]; simp [he]; exact M), G⟩
            case measure => simp [intOf]; omega
          · have HN := Lib.hid (show dropH (L.take (k + 1)) id = dropH (L.take k) id ++ [⟨i1, i2, i3, i4, i5, sp⟩] by rw [DN.out, HGV.out]; simp [he])
            have HFN := Lib.hid (show (findH (L.take (k + 1)) id).2 = true by rw [FN.out, HGV.out]; simp [he])
            go_wp2_with (first
              | ((with_reducible refine load_cells (o := ⟨some 52, _, _, _, _, _⟩) rfl _ _ rfl ba (off + k * 6) ?_ [.int .i64 i1, .int .i64 i2, .int .i64 i3, .int .i64 i4, .int .i64 i5, .string sp] _ XC.out Try.underlying52 rfl ?_ ?_); (focus go_simp); (focus (exact HSZ.out)))
              | ((with_reducible refine build_ls hdOk hd_fill (o := ⟨some 53, _, _, _, _, _⟩) rfl _ rfl ⟨i1, i2, i3, i4, i5, sp⟩ ?_ ?_ (by decide) ?_); (focus (first | (go_simp; done) | (go_simp; rfl))); (focus (exact FX.out)); intro wb hl hb hz; have QB := Lib.hid hl; have MB := Lib.hid (M.out.kept hb); have GB := Lib.hid (G.out.trans (hb.mono G.out.size)); clear hl hb hz)
              | ((with_reducible refine append_ls hdOk (o := ⟨some 54, _, _, _, _, _⟩) rfl _ _ rfl w8.heap.size _ (dropH (L.take k) id) ?_ MB.out _ 1 1 [⟨i1, i2, i3, i4, i5, sp⟩] ?_ QB.out ?_ ?_ ?_); (focus (first | (go_simp; done) | (go_simp; rfl))); (focus (first | (go_simp; done) | (go_simp; rfl))); (focus (have := hmlH.out; omega)); (focus (exact GB.out.size)); intro v2 w9 hN hb2 hg2 hv2; have M2 := Lib.hid hN; have G2 := Lib.hid (GB.out.trans hb2); clear hN hb2 hg2 hv2))
            go_roundw
            case rel => exact ⟨k + 1, vint (by omega), by omega, by rw [HFN.out], by (rw [HN.out]; exact M2), G2⟩
            case measure => simp [intOf]; omega
        · rcases gv with _ | _
          · have HN := Lib.hid (show dropH (L.take (k + 1)) id = dropH (L.take k) id ++ [⟨i1, i2, i3, i4, i5, sp⟩] by rw [DN.out, HGV.out]; simp [he])
            have HFN := Lib.hid (show (findH (L.take (k + 1)) id).2 = false by rw [FN.out, HGV.out]; simp [he])
            go_wp2_with (first
              | ((with_reducible refine load_cells (o := ⟨some 52, _, _, _, _, _⟩) rfl _ _ rfl ba (off + k * 6) ?_ [.int .i64 i1, .int .i64 i2, .int .i64 i3, .int .i64 i4, .int .i64 i5, .string sp] _ XC.out Try.underlying52 rfl ?_ ?_); (focus go_simp); (focus (exact HSZ.out)))
              | ((with_reducible refine build_ls hdOk hd_fill (o := ⟨some 53, _, _, _, _, _⟩) rfl _ rfl ⟨i1, i2, i3, i4, i5, sp⟩ ?_ ?_ (by decide) ?_); (focus (first | (go_simp; done) | (go_simp; rfl))); (focus (exact FX.out)); intro wb hl hb hz; have QB := Lib.hid hl; have MB := Lib.hid (M.out.kept hb); have GB := Lib.hid (G.out.trans (hb.mono G.out.size)); clear hl hb hz)
              | ((with_reducible refine append_ls hdOk (o := ⟨some 54, _, _, _, _, _⟩) rfl _ _ rfl w8.heap.size _ (dropH (L.take k) id) ?_ MB.out _ 1 1 [⟨i1, i2, i3, i4, i5, sp⟩] ?_ QB.out ?_ ?_ ?_); (focus (first | (go_simp; done) | (go_simp; rfl))); (focus (first | (go_simp; done) | (go_simp; rfl))); (focus (have := hmlH.out; omega)); (focus (exact GB.out.size)); intro v2 w9 hN hb2 hg2 hv2; have M2 := Lib.hid hN; have G2 := Lib.hid (GB.out.trans hb2); clear hN hb2 hg2 hv2))
            go_roundw
            case rel => exact ⟨k + 1, vint (by omega), by omega, by rw [HFN.out], by (rw [HN.out]; exact M2), G2⟩
            case measure => simp [intOf]; omega
          · have HN := Lib.hid (show dropH (L.take (k + 1)) id = dropH (L.take k) id ++ [⟨i1, i2, i3, i4, i5, sp⟩] by rw [DN.out, HGV.out]; simp [he])
            have HFN := Lib.hid (show (findH (L.take (k + 1)) id).2 = true by rw [FN.out, HGV.out]; simp [he])
            go_wp2_with (first
              | ((with_reducible refine load_cells (o := ⟨some 52, _, _, _, _, _⟩) rfl _ _ rfl ba (off + k * 6) ?_ [.int .i64 i1, .int .i64 i2, .int .i64 i3, .int .i64 i4, .int .i64 i5, .string sp] _ XC.out Try.underlying52 rfl ?_ ?_); (focus go_simp); (focus (exact HSZ.out)))
              | ((with_reducible refine build_ls hdOk hd_fill (o := ⟨some 53, _, _, _, _, _⟩) rfl _ rfl ⟨i1, i2, i3, i4, i5, sp⟩ ?_ ?_ (by decide) ?_); (focus (first | (go_simp; done) | (go_simp; rfl))); (focus (exact FX.out)); intro wb hl hb hz; have QB := Lib.hid hl; have MB := Lib.hid (M.out.kept hb); have GB := Lib.hid (G.out.trans (hb.mono G.out.size)); clear hl hb hz)
              | ((with_reducible refine append_ls hdOk (o := ⟨some 54, _, _, _, _, _⟩) rfl _ _ rfl w8.heap.size _ (dropH (L.take k) id) ?_ MB.out _ 1 1 [⟨i1, i2, i3, i4, i5, sp⟩] ?_ QB.out ?_ ?_ ?_); (focus (first | (go_simp; done) | (go_simp; rfl))); (focus (first | (go_simp; done) | (go_simp; rfl))); (focus (have := hmlH.out; omega)); (focus (exact GB.out.size)); intro v2 w9 hN hb2 hg2 hv2; have M2 := Lib.hid hN; have G2 := Lib.hid (GB.out.trans hb2); clear hN hb2 hg2 hv2))
            go_roundw
            case rel => exact ⟨k + 1, vint (by omega), by omega, by rw [HFN.out], by (rw [HN.out]; exact M2), G2⟩
            case measure => simp [intOf]; omega
      · obtain rfl : n = k := by omega
        have ht : L.take n = L := List.take_of_length_le (by rw [HL.out]; exact Nat.le_refl _)
        rw [ht] at M hmlH
        obtain ⟨a9, c9, rfl, -, -⟩ := M.out.ls hdOk (fun x hx => HF.out x ((dropH_sub L id).subset hx))
        have R19 := Lib.hid (R18.out.below G.out R18.out.lt)
        have R29 := Lib.hid (R28.out.below G.out R28.out.lt)
        have B9 := Lib.hid (B8.out.trans (G.out.mono B8.out.size))
        clear ht
        go_wp2_with (first
          | ((with_reducible refine load_row (o := ⟨some 55, _, _, _, _, _⟩) rfl _ _ rfl w.heap.size ?_ _ (ldC q u (h' - hd.by') nx a3 n c3) _ R19.out Try.underlying50 rfl ?_ ?_); (focus go_simp); (focus (exact LZS.out)))
          | (go_at_call 147; (with_reducible refine (ywith q u (h' - hd.by') nx a3 n c3 a9 _ c9 _).mono ?_); rintro x w10 ⟨rfl, hb⟩; have R2A := Lib.hid (R29.out.below hb R29.out.lt); have MA := Lib.hid (M.out.kept hb); have BA := Lib.hid (B9.out.trans (hb.mono B9.out.size)); clear hb)
          | ((with_reducible refine store_row (o := ⟨none, _, _, _, _, _⟩) rfl _ (.tmp 4) _ rfl w1.heap.size (ldC q u (h' - hd.by') nx a9 (dropH L id).length c9) ?_ ?_ 50 _ R2A.out ?_ ?_ ?_ ?_); (focus go_simp); (focus (first | (go_simp; done) | (go_simp; rfl))); (focus (exact LZS.out)); (focus rfl); (focus (exact ld_one _ _ _ _ _ _ _)); intro w11 hr hu; have R2B := Lib.hid hr; have BB := Lib.hid (BA.out.trans (hu.below B1.out.size)); have LB := Lib.hid (hd_out (MA.out.upd_lt hu R28.out.lt) rfl (fun x hx => HF.out x ((dropH_sub L id).subset hx))); clear hr hu))
        exact bodyPost_ret (results_row_tmp rfl _ _ w1.heap.size 50 _ _ _ (by go_simp) R2B.out Try.underlying50 rfl LZS.out) rfl ⟨_, rfl, ⟨_, _, _, rfl, LB.out⟩, BB.out⟩
end Go.Proofs.Ytiopcojkdglapaa.W
