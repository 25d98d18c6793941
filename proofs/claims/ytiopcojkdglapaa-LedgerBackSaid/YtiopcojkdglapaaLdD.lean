/- LAYER 19 (ledger): a call on both, out of contracts. LAYER 19 (ledger): any call on both, out of contracts. LAYER 19 (ledger): awake of the law, out of contracts. -/
import Derived.Test.YtiopcojkdglapaaLdA
set_option linter.unusedSimpArgs false
set_option linter.unusedVariables false
namespace Go.Proofs.Ytiopcojkdglapaa.W
open Go Go.ChangeShapes Go.WideShapes Go.ChangeAt Go.RowKit
open Go.Proofs.Ytiopcojkdglapaa.P (enc dec)

theorem Row.d9 {w : World} {g : Nat} {t : TypeId} {a b c d e f k l m : Value} (h : Row w g t [a, b, c, d, e, f, k, l, m]) : w.cell? ⟨g, 0, none⟩ = some a ∧ w.cell? ⟨g, 1, none⟩ = some b ∧ w.cell? ⟨g, 2, none⟩ = some c ∧ w.cell? ⟨g, 3, none⟩ = some d ∧ w.cell? ⟨g, 4, none⟩ = some e ∧ w.cell? ⟨g, 5, none⟩ = some f ∧ w.cell? ⟨g, 6, none⟩ = some k ∧ w.cell? ⟨g, 7, none⟩ = some l ∧ w.cell? ⟨g, 8, none⟩ = some m := by
  refine ⟨?_, ?_, ?_, ?_, ?_, ?_, ?_, ?_, ?_⟩ <;> (rw [h.cellV]; rfl)
theorem Row.hold {w : World} {g : Nat} {t : TypeId} {a b c d e f k l m : Value} (h : Row w g t [a, b, c, d, e, f, k, l, m]) (j : Nat) (v : Value) (hj : [d, e, f, k, l, m][j]? = some v) : w.cell? ⟨g, 3 + j, none⟩ = some v := by
  rw [h.cellV, ← hj]
  match j with
  | 0 | 1 | 2 | 3 | 4 | 5 => rfl
  | j + 6 => simp; omega
set_option maxRecDepth 100000 in
set_option maxHeartbeats 16000000 in
theorem do19_release (hP : LdP) (a a2 : Option Addr) (n c n2 c2 : Nat) (l : Ld) (id nn i1 i2 i3 i4 i5 : Int) (sp : ByteArray) (w : World) (hv : Ls hdE w a n c l.L) (hx : Ls hdE w a2 n2 c2 l.L) (hok : OkL l) (hd : Hd.fit ⟨i1, i2, i3, i4, i5, sp⟩) :
    Calls Try.prog 45 #[.agg (ldC l.q l.u l.h l.n a n c).toArray, .agg (ldC l.q l.u l.h l.n a2 n2 c2).toArray, .agg [.int .i64 3, .int .i64 id, .int .i64 nn, .int .i64 i1, .int .i64 i2, .int .i64 i3, .int .i64 i4, .int .i64 i5, .string sp].toArray] w fun e w' => ∃ v' x', e = .returned (.tuple #[v', x', .bool true]) ∧ LdV w' v' (l.release id).1 ∧ LdV w' x' (l.release id).1 ∧ Below w.heap.size w w' := by
  have LZS := Lib.hid ld_size
  have LZ := Lib.hid ld_zero
  have HSZ := Lib.hid hd_size
  have HV : Hid (LdV w (.agg (ldC l.q l.u l.h l.n a n c).toArray) l) := Lib.hid ⟨a, n, c, rfl, hv⟩
  have HX : Hid (LdV w (.agg (ldC l.q l.u l.h l.n a2 n2 c2).toArray) l) := Lib.hid ⟨a2, n2, c2, rfl, hx⟩
  have HP := Lib.hid (fun w' h => hP.release (.agg (ldC l.q l.u l.h l.n a n c).toArray) l id w' h hok)
  have HY := Lib.hid (fun w' h => yrelease (.agg (ldC l.q l.u l.h l.n a2 n2 c2).toArray) l id w' h hok)
  obtain ⟨m1, m2, hm⟩ : ∃ x y, l.release id = (x, y) := ⟨_, _, rfl⟩
  have HM := Lib.hid hm
  rw [hm]
  clear hP hv hx hok hd hm
  go_enter Try.func45, Try.ntmps45
  go_wp2_with (first
    | ((with_reducible refine box_row (o := ⟨some 3, _, _, _, _, _⟩) rfl _ _ rfl (ldC l.q l.u l.h l.n a n c) rfl ?_); intro w1 hr hb hz; have RA1 := Lib.hid hr; have B1 := Lib.hid hb; have S1 := Lib.hid (show w.heap.size < w1.heap.size by omega); clear hr hb hz)
    | ((with_reducible refine box_row (o := ⟨some 4, _, _, _, _, _⟩) rfl _ _ rfl (ldC l.q l.u l.h l.n a2 n2 c2) rfl ?_); intro w2 hr hb hz; have RB2 := Lib.hid hr; have RA2 := Lib.hid (RA1.out.below hb RA1.out.lt); have B2 := Lib.hid (B1.out.trans (hb.mono B1.out.size)); have S2 := Lib.hid (show w1.heap.size < w2.heap.size by omega); clear hr hb hz)
    | ((with_reducible refine box_row (o := ⟨some 5, _, _, _, _, _⟩) rfl _ _ rfl [.int .i64 3, .int .i64 id, .int .i64 nn, .int .i64 i1, .int .i64 i2, .int .i64 i3, .int .i64 i4, .int .i64 i5, .string sp] rfl ?_); intro w3 hr hb hz; have RD3 := Lib.hid hr; have RA3 := Lib.hid (RA2.out.below hb RA2.out.lt); have RB3 := Lib.hid (RB2.out.below hb RB2.out.lt); have B3 := Lib.hid (B2.out.trans (hb.mono B2.out.size)); have S3 := Lib.hid (show w2.heap.size < w3.heap.size by omega); clear hr hb hz)
    | ((with_reducible refine alloc_row (o := ⟨some 6, _, _, _, _, _⟩) rfl _ rfl _ LZ.out ?_); intro w4 hr hb hz; have R64 := Lib.hid hr; have RA4 := Lib.hid (RA3.out.below hb RA3.out.lt); have RB4 := Lib.hid (RB3.out.below hb RB3.out.lt); have RD4 := Lib.hid (RD3.out.below hb RD3.out.lt); have B4 := Lib.hid (B3.out.trans (hb.mono B3.out.size)); have S4 := Lib.hid (show w3.heap.size < w4.heap.size by omega); clear hr hb hz)
    | ((with_reducible refine alloc_row (o := ⟨some 7, _, _, _, _, _⟩) rfl _ rfl _ LZ.out ?_); intro w5 hr hb hz; have R75 := Lib.hid hr; have RA5 := Lib.hid (RA4.out.below hb RA4.out.lt); have RB5 := Lib.hid (RB4.out.below hb RB4.out.lt); have RD5 := Lib.hid (RD4.out.below hb RD4.out.lt); have R65 := Lib.hid (R64.out.below hb R64.out.lt); have B5 := Lib.hid (B4.out.trans (hb.mono B4.out.size)); have S5 := Lib.hid (show w4.heap.size < w5.heap.size by omega); clear hr hb hz)
    | ((with_reducible refine alloc_row (o := ⟨some 9, _, _, _, _, _⟩) rfl _ rfl _ LZ.out ?_); intro w6 hr hb hz; have R96 := Lib.hid hr; have RA6 := Lib.hid (RA5.out.below hb RA5.out.lt); have RB6 := Lib.hid (RB5.out.below hb RB5.out.lt); have RD6 := Lib.hid (RD5.out.below hb RD5.out.lt); have R66 := Lib.hid (R65.out.below hb R65.out.lt); have R76 := Lib.hid (R75.out.below hb R75.out.lt); have B6 := Lib.hid (B5.out.trans (hb.mono B5.out.size)); have S6 := Lib.hid (show w5.heap.size < w6.heap.size by omega); clear hr hb hz)
    | ((with_reducible refine alloc_row (o := ⟨some 10, _, _, _, _, _⟩) rfl _ rfl _ LZ.out ?_); intro w7 hr hb hz; have RX7 := Lib.hid hr; have RA7 := Lib.hid (RA6.out.below hb RA6.out.lt); have RB7 := Lib.hid (RB6.out.below hb RB6.out.lt); have RD7 := Lib.hid (RD6.out.below hb RD6.out.lt); have R67 := Lib.hid (R66.out.below hb R66.out.lt); have R77 := Lib.hid (R76.out.below hb R76.out.lt); have R97 := Lib.hid (R96.out.below hb R96.out.lt); have B7 := Lib.hid (B6.out.trans (hb.mono B6.out.size)); have S7 := Lib.hid (show w6.heap.size < w7.heap.size by omega); obtain ⟨d0, d1, d2, d3, d4, d5, d6, d7, d8⟩ := RD7.out.d9; clear hr hb hz)
    | ((with_reducible refine load_row (o := ⟨some 54, _, _, _, _, _⟩) rfl _ _ rfl w.heap.size ?_ _ (ldC l.q l.u l.h l.n a n c) _ RA7.out Try.underlying50 rfl ?_ ?_); (focus go_simp); (focus (exact LZS.out)))
    | (go_at_call 51; (with_reducible refine (HP.out w7 (HV.out.mono B7.out)).mono ?_); rw [HM.out]; rintro e w8 ⟨v8, rfl, ⟨a8, n8, c8, rfl, hl⟩, hb⟩; have L8 := Lib.hid hl; have RA8 := Lib.hid (RA7.out.below hb RA7.out.lt); have RB8 := Lib.hid (RB7.out.below hb RB7.out.lt); have RD8 := Lib.hid (RD7.out.below hb RD7.out.lt); have R68 := Lib.hid (R67.out.below hb R67.out.lt); have R78 := Lib.hid (R77.out.below hb R77.out.lt); have R98 := Lib.hid (R97.out.below hb R97.out.lt); have RX8 := Lib.hid (RX7.out.below hb RX7.out.lt); have B8 := Lib.hid (B7.out.trans (hb.mono B7.out.size)); clear hl hb d0 d1 d2 d3 d4 d5 d6 d7 d8)
    | ((with_reducible refine store_row (o := ⟨none, _, _, _, _, _⟩) rfl _ (.tmp 9) _ rfl w5.heap.size (ldC m1.q m1.u m1.h m1.n a8 n8 c8) ?_ ?_ 50 _ R98.out ?_ ?_ ?_ ?_); (focus go_simp); (focus (first | (go_simp; done) | (go_simp; rfl))); (focus (exact LZS.out)); (focus rfl); (focus (exact ld_one _ _ _ _ _ _ _)); intro w9 hr hu; have R99 := Lib.hid hr; have RA9 := Lib.hid (RA8.out.upd hu (Nat.ne_of_lt ((Nat.lt_of_lt_of_le RA1.out.lt (Nat.le_trans (Nat.le_of_lt S2.out) (Nat.le_trans (Nat.le_of_lt S3.out) (Nat.le_trans (Nat.le_of_lt S4.out) (Nat.le_of_lt S5.out)))))))); have RB9 := Lib.hid (RB8.out.upd hu (Nat.ne_of_lt (Nat.lt_trans S2.out (Nat.lt_trans S3.out (Nat.lt_trans S4.out S5.out))))); have RD9 := Lib.hid (RD8.out.upd hu (Nat.ne_of_lt (Nat.lt_trans S3.out (Nat.lt_trans S4.out S5.out)))); have R69 := Lib.hid (R68.out.upd hu (Nat.ne_of_lt (Nat.lt_trans S4.out S5.out))); have R79 := Lib.hid (R78.out.upd hu (Nat.ne_of_lt S5.out)); have RX9 := Lib.hid (RX8.out.upd hu (Nat.ne_of_gt S6.out)); have L9 := Lib.hid (L8.out.upd5 R98.out (show 5 ≤ 5 from Nat.le_refl 5) hu); have B9 := Lib.hid (B8.out.trans (hu.below B5.out.size)); obtain ⟨d0, d1, d2, d3, d4, d5, d6, d7, d8⟩ := RD9.out.d9; clear hr hu)
    | ((with_reducible refine load_row (o := ⟨some 61, _, _, _, _, _⟩) rfl _ _ rfl w1.heap.size ?_ _ (ldC l.q l.u l.h l.n a2 n2 c2) _ RB9.out Try.underlying50 rfl ?_ ?_); (focus go_simp); (focus (exact LZS.out)))
    | (go_at_call 97; (with_reducible refine (HY.out w9 (HX.out.mono B9.out)).mono ?_); rw [HM.out]; rintro e w10 ⟨v10, rfl, ⟨a10, n10, c10, rfl, hl⟩, hb⟩; have L10 := Lib.hid hl; have K10 := Lib.hid (L9.out.mono hdOk hb); have R910 := Lib.hid (R99.out.below hb R99.out.lt); have R610 := Lib.hid (R69.out.below hb R69.out.lt); have R710 := Lib.hid (R79.out.below hb R79.out.lt); have RX10 := Lib.hid (RX9.out.below hb RX9.out.lt); have B10 := Lib.hid (B9.out.trans (hb.mono B9.out.size)); clear hl hb d0 d1 d2 d3 d4 d5 d6 d7 d8)
    | ((with_reducible refine store_row (o := ⟨none, _, _, _, _, _⟩) rfl _ (.tmp 10) _ rfl w6.heap.size (ldC m1.q m1.u m1.h m1.n a10 n10 c10) ?_ ?_ 50 _ RX10.out ?_ ?_ ?_ ?_); (focus go_simp); (focus (first | (go_simp; done) | (go_simp; rfl))); (focus (exact LZS.out)); (focus rfl); (focus (exact ld_one _ _ _ _ _ _ _)); intro w11 hr hu; have RX11 := Lib.hid hr; have R911 := Lib.hid (R910.out.upd hu (Nat.ne_of_lt S6.out)); have R611 := Lib.hid (R610.out.upd hu (Nat.ne_of_lt (Nat.lt_trans S4.out (Nat.lt_trans S5.out S6.out)))); have R711 := Lib.hid (R710.out.upd hu (Nat.ne_of_lt (Nat.lt_trans S5.out S6.out))); have L11 := Lib.hid (L10.out.upd5 RX10.out (show 5 ≤ 5 from Nat.le_refl 5) hu); have K11 := Lib.hid (K10.out.upd5 RX10.out (show 5 ≤ 5 from Nat.le_refl 5) hu); have B11 := Lib.hid (B10.out.trans (hu.below B6.out.size)); clear hr hu))
  refine region_h (fun v => Row v w5.heap.size 50 (ldC m1.q m1.u m1.h m1.n a8 n8 c8) ∧ Row v w6.heap.size 50 (ldC m1.q m1.u m1.h m1.n a10 n10 c10)) (by kernel_rfl) (by kernel_rfl) (And.intro (R911.out.drewN 1) (RX11.out.drewN 1)) ?_
  obtain ⟨wd, hwd⟩ : ∃ wd, w11.drew = wd := ⟨_, rfl⟩
  have D0 : Hid (Below w11.heap.size w11 wd) := Lib.hid (by rw [← hwd]; exact (Below.refl _ _).drew)
  rw [hwd]
  clear hwd
  (refine h_read 0 rfl (by kernel_rfl) (by kernel_rfl) (h_free rfl) ?_ ?_ ?_; rotate_left; (focus (intro v hv; refine run_cells 50 (.tmp 9) ?_ w5.heap.size 0 ?_ (ldC m1.q m1.u m1.h m1.n a8 n8 c8) _ (fun j' u' hj => by rw [Nat.zero_add, hv.1.cellV]; exact hj) Try.underlying50 rfl ld_size; (focus rfl); go_simp)); go_simp)
  (refine h_read 1 rfl (by kernel_rfl) (by kernel_rfl) (h_free rfl) ?_ ?_ ?_; rotate_left; (focus (intro v hv; refine run_cells 50 (.tmp 10) ?_ w6.heap.size 0 ?_ (ldC m1.q m1.u m1.h m1.n a10 n10 c10) _ (fun j' u' hj => by rw [Nat.zero_add, hv.2.cellV]; exact hj) Try.underlying50 rfl ld_size; (focus rfl); go_simp)); go_simp)
  (refine h_read 2 rfl (by kernel_rfl) (by kernel_rfl) (h_free rfl) ?_ ?_ ?_; rotate_left; (focus (intro v hv; go_simp; rfl)); go_simp)
  (refine h_read 3 rfl (by kernel_rfl) (by kernel_rfl) (h_free rfl) ?_ ?_ ?_; rotate_left; (focus (intro v hv; go_simp; rfl)); go_simp)
  (refine h_read 4 rfl (by kernel_rfl) (by kernel_rfl) (h_free rfl) ?_ ?_ ?_; rotate_left; (focus (intro v hv; go_simp; rfl)); go_simp)
  (refine h_read 5 rfl (by kernel_rfl) (by kernel_rfl) (h_free rfl) ?_ ?_ ?_; rotate_left; (focus (intro v hv; go_simp; rfl)); go_simp)
  (refine h_read 6 rfl (by kernel_rfl) (by kernel_rfl) ?_ ?_ ?_ ?_; (focus (go_simp; done)); rotate_left; (focus (intro v hv; go_simp; rfl)); go_simp)
  (refine h_read 7 rfl (by kernel_rfl) (by kernel_rfl) ?_ ?_ ?_ ?_; (focus (go_simp; done)); rotate_left; (focus (intro v hv; go_simp; rfl)); go_simp)
  (refine h_read 8 rfl (by kernel_rfl) (by kernel_rfl) ?_ ?_ ?_ ?_; (focus (go_simp; done)); rotate_left; (focus (intro v hv; go_simp; rfl)); go_simp)
  (refine h_read 9 rfl (by kernel_rfl) (by kernel_rfl) (h_free rfl) ?_ ?_ ?_; rotate_left; (focus (intro v hv; go_simp; rfl)); go_simp)
  (refine h_read 10 rfl (by kernel_rfl) (by kernel_rfl) (h_free rfl) ?_ ?_ ?_; rotate_left; (focus (intro v hv; go_simp; rfl)); go_simp)
  (refine h_read 11 rfl (by kernel_rfl) (by kernel_rfl) ?_ ?_ ?_ ?_; (focus (go_simp; done)); rotate_left; (focus (intro v hv; refine run_cells 50 (.tmp 9) ?_ w5.heap.size 0 ?_ (ldC m1.q m1.u m1.h m1.n a8 n8 c8) _ (fun j' u' hj => by rw [Nat.zero_add, hv.1.cellV]; exact hj) Try.underlying50 rfl ld_size; (focus rfl); go_simp)); go_simp)
  (refine h_read 12 rfl (by kernel_rfl) (by kernel_rfl) ?_ ?_ ?_ ?_; (focus (go_simp; done)); rotate_left; (focus (intro v hv; refine run_cells 50 (.tmp 10) ?_ w6.heap.size 0 ?_ (ldC m1.q m1.u m1.h m1.n a10 n10 c10) _ (fun j' u' hj => by rw [Nat.zero_add, hv.2.cellV]; exact hj) Try.underlying50 rfl ld_size; (focus rfl); go_simp)); go_simp)
  (refine h_call 13 rfl (by kernel_rfl) ?_ 56 ?_ ?_ ?_; (focus (go_simp; done)); rotate_left; (focus (go_simp; rfl)))
  refine (ysame m1.q m1.u m1.h m1.n a8 n8 c8 m1.L m1.q m1.u m1.h m1.n a10 n10 c10 m1.L wd (K11.out.mono hdOk D0.out) (L11.out.mono hdOk D0.out) true (by simp)).mono ?_
  rintro e w12 ⟨rfl, hb⟩
  have D12 := Lib.hid (D0.out.trans (hb.mono D0.out.size))
  have R912 := Lib.hid (R911.out.below D12.out R911.out.lt)
  have RX12 := Lib.hid (RX11.out.below D12.out RX11.out.lt)
  have R612 := Lib.hid (R611.out.below D12.out R611.out.lt)
  have R712 := Lib.hid (R711.out.below D12.out R711.out.lt)
  have K12 := Lib.hid (K11.out.mono hdOk D12.out)
  have L12 := Lib.hid (L11.out.mono hdOk D12.out)
  have B12 := Lib.hid (B11.out.trans (D12.out.mono B11.out.size))
  clear hb
  refine ⟨_, rfl, ⟨R912.out, RX12.out⟩, ?_⟩
  go_simp
  (refine h_read 14 rfl (by kernel_rfl) (by kernel_rfl) (h_free rfl) ?_ ?_ ?_; rotate_left; (focus (intro v hv; go_simp; rfl)); go_simp)
  (refine h_list 15 rfl (by kernel_rfl) ?_; intro K hK)
  refine store_row rfl _ _ _ rfl w3.heap.size (ldC m1.q m1.u m1.h m1.n a8 n8 c8) (by go_simp) (by go_simp) 50 _ R612.out LZS.out rfl (ld_one _ _ _ _ _ _ _) ?_
  intro w13 hr hu
  have R613 := Lib.hid hr
  have R913 := Lib.hid (R912.out.upd hu (Nat.ne_of_gt (Nat.lt_trans S4.out S5.out)))
  have RX13 := Lib.hid (RX12.out.upd hu (Nat.ne_of_gt (Nat.lt_trans S4.out (Nat.lt_trans S5.out S6.out))))
  have R713 := Lib.hid (R712.out.upd hu (Nat.ne_of_gt S4.out))
  have K13 := Lib.hid (K12.out.upd5 R612.out (show 5 ≤ 5 from Nat.le_refl 5) hu)
  have L13 := Lib.hid (L12.out.upd5 R612.out (show 5 ≤ 5 from Nat.le_refl 5) hu)
  have B13 := Lib.hid (B12.out.trans (hu.below B3.out.size))
  clear hr hu
  refine hK _ _ ⟨R913.out, RX13.out⟩ ?_
  go_simp
  (refine h_list 16 rfl (by kernel_rfl) ?_; intro K hK)
  refine store_row rfl _ _ _ rfl w4.heap.size (ldC m1.q m1.u m1.h m1.n a10 n10 c10) (by go_simp) (by go_simp) 50 _ R713.out LZS.out rfl (ld_one _ _ _ _ _ _ _) ?_
  intro w14 hr hu
  have R714 := Lib.hid hr
  have R914 := Lib.hid (R913.out.upd hu (Nat.ne_of_gt S5.out))
  have RX14 := Lib.hid (RX13.out.upd hu (Nat.ne_of_gt (Nat.lt_trans S5.out S6.out)))
  have R614 := Lib.hid (R613.out.upd hu (Nat.ne_of_lt S4.out))
  have K14 := Lib.hid (K13.out.upd5 R713.out (show 5 ≤ 5 from Nat.le_refl 5) hu)
  have L14 := Lib.hid (L13.out.upd5 R713.out (show 5 ≤ 5 from Nat.le_refl 5) hu)
  have B14 := Lib.hid (B13.out.trans (hu.below B4.out.size))
  clear hr hu
  refine hK _ _ ⟨R914.out, RX14.out⟩ ?_
  go_simp
  (refine h_read 17 rfl (by kernel_rfl) (by kernel_rfl) (h_free rfl) ?_ ?_ ?_; rotate_left; (focus (intro v hv; go_simp; rfl)); go_simp)
  refine h_done (by kernel_rfl) ?_
  go_wp2_with fail
  exact bodyPost_ret (results_cc_tmp rfl _ _ w3.heap.size w4.heap.size 50 50 _ _ _ _ _ (by go_simp) (by go_simp) R614.out R714.out Try.underlying50 rfl LZS.out LZS.out) rfl ⟨_, _, rfl, ⟨_, _, _, rfl, K14.out⟩, ⟨_, _, _, rfl, L14.out⟩, B14.out⟩
set_option maxRecDepth 100000 in
set_option maxHeartbeats 16000000 in
theorem do19_reserve0 (hP : LdP) (a a2 : Option Addr) (n c n2 c2 : Nat) (l : Ld) (id nn i1 i2 i3 i4 i5 : Int) (sp : ByteArray) (w : World) (hv : Ls hdE w a n c l.L) (hx : Ls hdE w a2 n2 c2 l.L) (hok : OkL l) (hd : Hd.fit ⟨i1, i2, i3, i4, i5, sp⟩) :
    Calls Try.prog 45 #[.agg (ldC l.q l.u l.h l.n a n c).toArray, .agg (ldC l.q l.u l.h l.n a2 n2 c2).toArray, .agg [.int .i64 0, .int .i64 id, .int .i64 nn, .int .i64 i1, .int .i64 i2, .int .i64 i3, .int .i64 i4, .int .i64 i5, .string sp].toArray] w fun e w' => ∃ v' x', e = .returned (.tuple #[v', x', .bool true]) ∧ LdV w' v' (l.reserve ⟨i1, i2, i3, i4, i5, sp⟩).1 ∧ LdV w' x' (l.reserve ⟨i1, i2, i3, i4, i5, sp⟩).1 ∧ Below w.heap.size w w' := by
  have LZS := Lib.hid ld_size
  have LZ := Lib.hid ld_zero
  have HSZ := Lib.hid hd_size
  have HV : Hid (LdV w (.agg (ldC l.q l.u l.h l.n a n c).toArray) l) := Lib.hid ⟨a, n, c, rfl, hv⟩
  have HX : Hid (LdV w (.agg (ldC l.q l.u l.h l.n a2 n2 c2).toArray) l) := Lib.hid ⟨a2, n2, c2, rfl, hx⟩
  have HP := Lib.hid (fun w' h => hP.reserve (.agg (ldC l.q l.u l.h l.n a n c).toArray) l ⟨i1, i2, i3, i4, i5, sp⟩ w' h hok hd)
  have HY := Lib.hid (fun w' h => yreserve (.agg (ldC l.q l.u l.h l.n a2 n2 c2).toArray) l ⟨i1, i2, i3, i4, i5, sp⟩ w' h hok hd)
  obtain ⟨m1, m2, m3, hm⟩ : ∃ x y z, l.reserve ⟨i1, i2, i3, i4, i5, sp⟩ = (x, y, z) := ⟨_, _, _, rfl⟩
  have HM := Lib.hid hm
  rw [hm]
  clear hP hv hx hok hd hm
  go_enter Try.func45, Try.ntmps45
  go_wp2_with (first
    | ((with_reducible refine box_row (o := ⟨some 3, _, _, _, _, _⟩) rfl _ _ rfl (ldC l.q l.u l.h l.n a n c) rfl ?_); intro w1 hr hb hz; have RA1 := Lib.hid hr; have B1 := Lib.hid hb; have S1 := Lib.hid (show w.heap.size < w1.heap.size by omega); clear hr hb hz)
    | ((with_reducible refine box_row (o := ⟨some 4, _, _, _, _, _⟩) rfl _ _ rfl (ldC l.q l.u l.h l.n a2 n2 c2) rfl ?_); intro w2 hr hb hz; have RB2 := Lib.hid hr; have RA2 := Lib.hid (RA1.out.below hb RA1.out.lt); have B2 := Lib.hid (B1.out.trans (hb.mono B1.out.size)); have S2 := Lib.hid (show w1.heap.size < w2.heap.size by omega); clear hr hb hz)
    | ((with_reducible refine box_row (o := ⟨some 5, _, _, _, _, _⟩) rfl _ _ rfl [.int .i64 0, .int .i64 id, .int .i64 nn, .int .i64 i1, .int .i64 i2, .int .i64 i3, .int .i64 i4, .int .i64 i5, .string sp] rfl ?_); intro w3 hr hb hz; have RD3 := Lib.hid hr; have RA3 := Lib.hid (RA2.out.below hb RA2.out.lt); have RB3 := Lib.hid (RB2.out.below hb RB2.out.lt); have B3 := Lib.hid (B2.out.trans (hb.mono B2.out.size)); have S3 := Lib.hid (show w2.heap.size < w3.heap.size by omega); clear hr hb hz)
    | ((with_reducible refine alloc_row (o := ⟨some 6, _, _, _, _, _⟩) rfl _ rfl _ LZ.out ?_); intro w4 hr hb hz; have R64 := Lib.hid hr; have RA4 := Lib.hid (RA3.out.below hb RA3.out.lt); have RB4 := Lib.hid (RB3.out.below hb RB3.out.lt); have RD4 := Lib.hid (RD3.out.below hb RD3.out.lt); have B4 := Lib.hid (B3.out.trans (hb.mono B3.out.size)); have S4 := Lib.hid (show w3.heap.size < w4.heap.size by omega); clear hr hb hz)
    | ((with_reducible refine alloc_row (o := ⟨some 7, _, _, _, _, _⟩) rfl _ rfl _ LZ.out ?_); intro w5 hr hb hz; have R75 := Lib.hid hr; have RA5 := Lib.hid (RA4.out.below hb RA4.out.lt); have RB5 := Lib.hid (RB4.out.below hb RB4.out.lt); have RD5 := Lib.hid (RD4.out.below hb RD4.out.lt); have R65 := Lib.hid (R64.out.below hb R64.out.lt); have B5 := Lib.hid (B4.out.trans (hb.mono B4.out.size)); have S5 := Lib.hid (show w4.heap.size < w5.heap.size by omega); clear hr hb hz)
    | ((with_reducible refine alloc_row (o := ⟨some 9, _, _, _, _, _⟩) rfl _ rfl _ LZ.out ?_); intro w6 hr hb hz; have R96 := Lib.hid hr; have RA6 := Lib.hid (RA5.out.below hb RA5.out.lt); have RB6 := Lib.hid (RB5.out.below hb RB5.out.lt); have RD6 := Lib.hid (RD5.out.below hb RD5.out.lt); have R66 := Lib.hid (R65.out.below hb R65.out.lt); have R76 := Lib.hid (R75.out.below hb R75.out.lt); have B6 := Lib.hid (B5.out.trans (hb.mono B5.out.size)); have S6 := Lib.hid (show w5.heap.size < w6.heap.size by omega); clear hr hb hz)
    | ((with_reducible refine alloc_row (o := ⟨some 10, _, _, _, _, _⟩) rfl _ rfl _ LZ.out ?_); intro w7 hr hb hz; have RX7 := Lib.hid hr; have RA7 := Lib.hid (RA6.out.below hb RA6.out.lt); have RB7 := Lib.hid (RB6.out.below hb RB6.out.lt); have RD7 := Lib.hid (RD6.out.below hb RD6.out.lt); have R67 := Lib.hid (R66.out.below hb R66.out.lt); have R77 := Lib.hid (R76.out.below hb R76.out.lt); have R97 := Lib.hid (R96.out.below hb R96.out.lt); have B7 := Lib.hid (B6.out.trans (hb.mono B6.out.size)); have S7 := Lib.hid (show w6.heap.size < w7.heap.size by omega); obtain ⟨d0, d1, d2, d3, d4, d5, d6, d7, d8⟩ := RD7.out.d9; clear hr hb hz)
    | ((with_reducible refine load_row (o := ⟨some 36, _, _, _, _, _⟩) rfl _ _ rfl w.heap.size ?_ _ (ldC l.q l.u l.h l.n a n c) _ RA7.out Try.underlying50 rfl ?_ ?_); (focus go_simp); (focus (exact LZS.out)))
    | ((with_reducible refine load_cells (o := ⟨some 38, _, _, _, _, _⟩) rfl _ _ rfl w2.heap.size 3 ?_ [.int .i64 i1, .int .i64 i2, .int .i64 i3, .int .i64 i4, .int .i64 i5, .string sp] _ (fun j' u' hj => RD7.out.hold j' u' hj) Try.underlying52 rfl ?_ ?_); (focus go_simp); (focus (exact HSZ.out)))
    | ((with_reducible refine load_cells (o := ⟨some 46, _, _, _, _, _⟩) rfl _ _ rfl w2.heap.size 3 ?_ [.int .i64 i1, .int .i64 i2, .int .i64 i3, .int .i64 i4, .int .i64 i5, .string sp] _ (fun j' u' hj => RD9.out.hold j' u' hj) Try.underlying52 rfl ?_ ?_); (focus go_simp); (focus (exact HSZ.out)))
    | (go_at_call 49; (with_reducible refine (HP.out w7 (HV.out.mono B7.out)).mono ?_); rw [HM.out]; rintro e w8 ⟨v8, rfl, ⟨a8, n8, c8, rfl, hl⟩, hb⟩; have L8 := Lib.hid hl; have RA8 := Lib.hid (RA7.out.below hb RA7.out.lt); have RB8 := Lib.hid (RB7.out.below hb RB7.out.lt); have RD8 := Lib.hid (RD7.out.below hb RD7.out.lt); have R68 := Lib.hid (R67.out.below hb R67.out.lt); have R78 := Lib.hid (R77.out.below hb R77.out.lt); have R98 := Lib.hid (R97.out.below hb R97.out.lt); have RX8 := Lib.hid (RX7.out.below hb RX7.out.lt); have B8 := Lib.hid (B7.out.trans (hb.mono B7.out.size)); clear hl hb d0 d1 d2 d3 d4 d5 d6 d7 d8)
    | ((with_reducible refine store_row (o := ⟨none, _, _, _, _, _⟩) rfl _ (.tmp 9) _ rfl w5.heap.size (ldC m1.q m1.u m1.h m1.n a8 n8 c8) ?_ ?_ 50 _ R98.out ?_ ?_ ?_ ?_); (focus go_simp); (focus (first | (go_simp; done) | (go_simp; rfl))); (focus (exact LZS.out)); (focus rfl); (focus (exact ld_one _ _ _ _ _ _ _)); intro w9 hr hu; have R99 := Lib.hid hr; have RA9 := Lib.hid (RA8.out.upd hu (Nat.ne_of_lt ((Nat.lt_of_lt_of_le RA1.out.lt (Nat.le_trans (Nat.le_of_lt S2.out) (Nat.le_trans (Nat.le_of_lt S3.out) (Nat.le_trans (Nat.le_of_lt S4.out) (Nat.le_of_lt S5.out)))))))); have RB9 := Lib.hid (RB8.out.upd hu (Nat.ne_of_lt (Nat.lt_trans S2.out (Nat.lt_trans S3.out (Nat.lt_trans S4.out S5.out))))); have RD9 := Lib.hid (RD8.out.upd hu (Nat.ne_of_lt (Nat.lt_trans S3.out (Nat.lt_trans S4.out S5.out)))); have R69 := Lib.hid (R68.out.upd hu (Nat.ne_of_lt (Nat.lt_trans S4.out S5.out))); have R79 := Lib.hid (R78.out.upd hu (Nat.ne_of_lt S5.out)); have RX9 := Lib.hid (RX8.out.upd hu (Nat.ne_of_gt S6.out)); have L9 := Lib.hid (L8.out.upd5 R98.out (show 5 ≤ 5 from Nat.le_refl 5) hu); have B9 := Lib.hid (B8.out.trans (hu.below B5.out.size)); obtain ⟨d0, d1, d2, d3, d4, d5, d6, d7, d8⟩ := RD9.out.d9; clear hr hu)
    | ((with_reducible refine load_row (o := ⟨some 44, _, _, _, _, _⟩) rfl _ _ rfl w1.heap.size ?_ _ (ldC l.q l.u l.h l.n a2 n2 c2) _ RB9.out Try.underlying50 rfl ?_ ?_); (focus go_simp); (focus (exact LZS.out)))
    | (go_at_call 96; (with_reducible refine (HY.out w9 (HX.out.mono B9.out)).mono ?_); rw [HM.out]; rintro e w10 ⟨v10, rfl, ⟨a10, n10, c10, rfl, hl⟩, hb⟩; have L10 := Lib.hid hl; have K10 := Lib.hid (L9.out.mono hdOk hb); have R910 := Lib.hid (R99.out.below hb R99.out.lt); have R610 := Lib.hid (R69.out.below hb R69.out.lt); have R710 := Lib.hid (R79.out.below hb R79.out.lt); have RX10 := Lib.hid (RX9.out.below hb RX9.out.lt); have B10 := Lib.hid (B9.out.trans (hb.mono B9.out.size)); clear hl hb d0 d1 d2 d3 d4 d5 d6 d7 d8)
    | ((with_reducible refine store_row (o := ⟨none, _, _, _, _, _⟩) rfl _ (.tmp 10) _ rfl w6.heap.size (ldC m1.q m1.u m1.h m1.n a10 n10 c10) ?_ ?_ 50 _ RX10.out ?_ ?_ ?_ ?_); (focus go_simp); (focus (first | (go_simp; done) | (go_simp; rfl))); (focus (exact LZS.out)); (focus rfl); (focus (exact ld_one _ _ _ _ _ _ _)); intro w11 hr hu; have RX11 := Lib.hid hr; have R911 := Lib.hid (R910.out.upd hu (Nat.ne_of_lt S6.out)); have R611 := Lib.hid (R610.out.upd hu (Nat.ne_of_lt (Nat.lt_trans S4.out (Nat.lt_trans S5.out S6.out)))); have R711 := Lib.hid (R710.out.upd hu (Nat.ne_of_lt (Nat.lt_trans S5.out S6.out))); have L11 := Lib.hid (L10.out.upd5 RX10.out (show 5 ≤ 5 from Nat.le_refl 5) hu); have K11 := Lib.hid (K10.out.upd5 RX10.out (show 5 ≤ 5 from Nat.le_refl 5) hu); have B11 := Lib.hid (B10.out.trans (hu.below B6.out.size)); clear hr hu))
  refine region_h (fun v => Row v w5.heap.size 50 (ldC m1.q m1.u m1.h m1.n a8 n8 c8) ∧ Row v w6.heap.size 50 (ldC m1.q m1.u m1.h m1.n a10 n10 c10)) (by kernel_rfl) (by kernel_rfl) (And.intro (R911.out.drewN 1) (RX11.out.drewN 1)) ?_
  obtain ⟨wd, hwd⟩ : ∃ wd, w11.drew = wd := ⟨_, rfl⟩
  have D0 : Hid (Below w11.heap.size w11 wd) := Lib.hid (by rw [← hwd]; exact (Below.refl _ _).drew)
  rw [hwd]
  clear hwd
  (refine h_read 0 rfl (by kernel_rfl) (by kernel_rfl) (h_free rfl) ?_ ?_ ?_; rotate_left; (focus (intro v hv; refine run_cells 50 (.tmp 9) ?_ w5.heap.size 0 ?_ (ldC m1.q m1.u m1.h m1.n a8 n8 c8) _ (fun j' u' hj => by rw [Nat.zero_add, hv.1.cellV]; exact hj) Try.underlying50 rfl ld_size; (focus rfl); go_simp)); go_simp)
  (refine h_read 1 rfl (by kernel_rfl) (by kernel_rfl) (h_free rfl) ?_ ?_ ?_; rotate_left; (focus (intro v hv; refine run_cells 50 (.tmp 10) ?_ w6.heap.size 0 ?_ (ldC m1.q m1.u m1.h m1.n a10 n10 c10) _ (fun j' u' hj => by rw [Nat.zero_add, hv.2.cellV]; exact hj) Try.underlying50 rfl ld_size; (focus rfl); go_simp)); go_simp)
  (refine h_read 2 rfl (by kernel_rfl) (by kernel_rfl) (h_free rfl) ?_ ?_ ?_; rotate_left; (focus (intro v hv; go_simp; rfl)); go_simp)
  (refine h_read 3 rfl (by kernel_rfl) (by kernel_rfl) (h_free rfl) ?_ ?_ ?_; rotate_left; (focus (intro v hv; go_simp; rfl)); go_simp)
  (refine h_read 4 rfl (by kernel_rfl) (by kernel_rfl) (h_free rfl) ?_ ?_ ?_; rotate_left; (focus (intro v hv; go_simp; rfl)); go_simp)
  (refine h_read 5 rfl (by kernel_rfl) (by kernel_rfl) (h_free rfl) ?_ ?_ ?_; rotate_left; (focus (intro v hv; go_simp; rfl)); go_simp)
  (refine h_read 6 rfl (by kernel_rfl) (by kernel_rfl) ?_ ?_ ?_ ?_; (focus (go_simp; done)); rotate_left; (focus (intro v hv; go_simp; rfl)); go_simp)
  (refine h_read 7 rfl (by kernel_rfl) (by kernel_rfl) ?_ ?_ ?_ ?_; (focus (go_simp; done)); rotate_left; (focus (intro v hv; go_simp; rfl)); go_simp)
  (refine h_read 8 rfl (by kernel_rfl) (by kernel_rfl) ?_ ?_ ?_ ?_; (focus (go_simp; done)); rotate_left; (focus (intro v hv; go_simp; rfl)); go_simp)
  (refine h_read 9 rfl (by kernel_rfl) (by kernel_rfl) (h_free rfl) ?_ ?_ ?_; rotate_left; (focus (intro v hv; go_simp; rfl)); go_simp)
  (refine h_read 10 rfl (by kernel_rfl) (by kernel_rfl) (h_free rfl) ?_ ?_ ?_; rotate_left; (focus (intro v hv; go_simp; rfl)); go_simp)
  (refine h_read 11 rfl (by kernel_rfl) (by kernel_rfl) ?_ ?_ ?_ ?_; (focus (go_simp; done)); rotate_left; (focus (intro v hv; refine run_cells 50 (.tmp 9) ?_ w5.heap.size 0 ?_ (ldC m1.q m1.u m1.h m1.n a8 n8 c8) _ (fun j' u' hj => by rw [Nat.zero_add, hv.1.cellV]; exact hj) Try.underlying50 rfl ld_size; (focus rfl); go_simp)); go_simp)
  (refine h_read 12 rfl (by kernel_rfl) (by kernel_rfl) ?_ ?_ ?_ ?_; (focus (go_simp; done)); rotate_left; (focus (intro v hv; refine run_cells 50 (.tmp 10) ?_ w6.heap.size 0 ?_ (ldC m1.q m1.u m1.h m1.n a10 n10 c10) _ (fun j' u' hj => by rw [Nat.zero_add, hv.2.cellV]; exact hj) Try.underlying50 rfl ld_size; (focus rfl); go_simp)); go_simp)
  (refine h_call 13 rfl (by kernel_rfl) ?_ 56 ?_ ?_ ?_; (focus (go_simp; done)); rotate_left; (focus (go_simp; rfl)))
  refine (ysame m1.q m1.u m1.h m1.n a8 n8 c8 m1.L m1.q m1.u m1.h m1.n a10 n10 c10 m1.L wd (K11.out.mono hdOk D0.out) (L11.out.mono hdOk D0.out) true (by simp)).mono ?_
  rintro e w12 ⟨rfl, hb⟩
  have D12 := Lib.hid (D0.out.trans (hb.mono D0.out.size))
  have R912 := Lib.hid (R911.out.below D12.out R911.out.lt)
  have RX12 := Lib.hid (RX11.out.below D12.out RX11.out.lt)
  have R612 := Lib.hid (R611.out.below D12.out R611.out.lt)
  have R712 := Lib.hid (R711.out.below D12.out R711.out.lt)
  have K12 := Lib.hid (K11.out.mono hdOk D12.out)
  have L12 := Lib.hid (L11.out.mono hdOk D12.out)
  have B12 := Lib.hid (B11.out.trans (D12.out.mono B11.out.size))
  clear hb
  refine ⟨_, rfl, ⟨R912.out, RX12.out⟩, ?_⟩
  go_simp
  (refine h_read 14 rfl (by kernel_rfl) (by kernel_rfl) (h_free rfl) ?_ ?_ ?_; rotate_left; (focus (intro v hv; go_simp; rfl)); go_simp)
  (refine h_list 15 rfl (by kernel_rfl) ?_; intro K hK)
  refine store_row rfl _ _ _ rfl w3.heap.size (ldC m1.q m1.u m1.h m1.n a8 n8 c8) (by go_simp) (by go_simp) 50 _ R612.out LZS.out rfl (ld_one _ _ _ _ _ _ _) ?_
  intro w13 hr hu
  have R613 := Lib.hid hr
  have R913 := Lib.hid (R912.out.upd hu (Nat.ne_of_gt (Nat.lt_trans S4.out S5.out)))
  have RX13 := Lib.hid (RX12.out.upd hu (Nat.ne_of_gt (Nat.lt_trans S4.out (Nat.lt_trans S5.out S6.out))))
  have R713 := Lib.hid (R712.out.upd hu (Nat.ne_of_gt S4.out))
  have K13 := Lib.hid (K12.out.upd5 R612.out (show 5 ≤ 5 from Nat.le_refl 5) hu)
  have L13 := Lib.hid (L12.out.upd5 R612.out (show 5 ≤ 5 from Nat.le_refl 5) hu)
  have B13 := Lib.hid (B12.out.trans (hu.below B3.out.size))
  clear hr hu
  refine hK _ _ ⟨R913.out, RX13.out⟩ ?_
  go_simp
  (refine h_list 16 rfl (by kernel_rfl) ?_; intro K hK)
  refine store_row rfl _ _ _ rfl w4.heap.size (ldC m1.q m1.u m1.h m1.n a10 n10 c10) (by go_simp) (by go_simp) 50 _ R713.out LZS.out rfl (ld_one _ _ _ _ _ _ _) ?_
  intro w14 hr hu
  have R714 := Lib.hid hr
  have R914 := Lib.hid (R913.out.upd hu (Nat.ne_of_gt S5.out))
  have RX14 := Lib.hid (RX13.out.upd hu (Nat.ne_of_gt (Nat.lt_trans S5.out S6.out)))
  have R614 := Lib.hid (R613.out.upd hu (Nat.ne_of_lt S4.out))
  have K14 := Lib.hid (K13.out.upd5 R713.out (show 5 ≤ 5 from Nat.le_refl 5) hu)
  have L14 := Lib.hid (L13.out.upd5 R713.out (show 5 ≤ 5 from Nat.le_refl 5) hu)
  have B14 := Lib.hid (B13.out.trans (hu.below B4.out.size))
  clear hr hu
  refine hK _ _ ⟨R914.out, RX14.out⟩ ?_
  go_simp
  (refine h_read 17 rfl (by kernel_rfl) (by kernel_rfl) (h_free rfl) ?_ ?_ ?_; rotate_left; (focus (intro v hv; go_simp; rfl)); go_simp)
  refine h_done (by kernel_rfl) ?_
  go_wp2_with fail
  exact bodyPost_ret (results_cc_tmp rfl _ _ w3.heap.size w4.heap.size 50 50 _ _ _ _ _ (by go_simp) (by go_simp) R614.out R714.out Try.underlying50 rfl LZS.out LZS.out) rfl ⟨_, _, rfl, ⟨_, _, _, rfl, K14.out⟩, ⟨_, _, _, rfl, L14.out⟩, B14.out⟩
set_option maxRecDepth 100000 in
set_option maxHeartbeats 16000000 in
theorem do19_reserve1 (hP : LdP) (a a2 : Option Addr) (n c n2 c2 : Nat) (l : Ld) (id nn i1 i2 i3 i4 i5 : Int) (sp : ByteArray) (w : World) (hv : Ls hdE w a n c l.L) (hx : Ls hdE w a2 n2 c2 l.L) (hok : OkL l) (hd : Hd.fit ⟨i1, i2, i3, i4, i5, sp⟩) :
    Calls Try.prog 45 #[.agg (ldC l.q l.u l.h l.n a n c).toArray, .agg (ldC l.q l.u l.h l.n a2 n2 c2).toArray, .agg [.int .i64 1, .int .i64 id, .int .i64 nn, .int .i64 i1, .int .i64 i2, .int .i64 i3, .int .i64 i4, .int .i64 i5, .string sp].toArray] w fun e w' => ∃ v' x', e = .returned (.tuple #[v', x', .bool true]) ∧ LdV w' v' (l.reserve ⟨i1, i2, i3, i4, i5, sp⟩).1 ∧ LdV w' x' (l.reserve ⟨i1, i2, i3, i4, i5, sp⟩).1 ∧ Below w.heap.size w w' := by
  have LZS := Lib.hid ld_size
  have LZ := Lib.hid ld_zero
  have HSZ := Lib.hid hd_size
  have HV : Hid (LdV w (.agg (ldC l.q l.u l.h l.n a n c).toArray) l) := Lib.hid ⟨a, n, c, rfl, hv⟩
  have HX : Hid (LdV w (.agg (ldC l.q l.u l.h l.n a2 n2 c2).toArray) l) := Lib.hid ⟨a2, n2, c2, rfl, hx⟩
  have HP := Lib.hid (fun w' h => hP.reserve (.agg (ldC l.q l.u l.h l.n a n c).toArray) l ⟨i1, i2, i3, i4, i5, sp⟩ w' h hok hd)
  have HY := Lib.hid (fun w' h => yreserve (.agg (ldC l.q l.u l.h l.n a2 n2 c2).toArray) l ⟨i1, i2, i3, i4, i5, sp⟩ w' h hok hd)
  obtain ⟨m1, m2, m3, hm⟩ : ∃ x y z, l.reserve ⟨i1, i2, i3, i4, i5, sp⟩ = (x, y, z) := ⟨_, _, _, rfl⟩
  have HM := Lib.hid hm
  rw [hm]
  clear hP hv hx hok hd hm
  go_enter Try.func45, Try.ntmps45
  go_wp2_with (first
    | ((with_reducible refine box_row (o := ⟨some 3, _, _, _, _, _⟩) rfl _ _ rfl (ldC l.q l.u l.h l.n a n c) rfl ?_); intro w1 hr hb hz; have RA1 := Lib.hid hr; have B1 := Lib.hid hb; have S1 := Lib.hid (show w.heap.size < w1.heap.size by omega); clear hr hb hz)
    | ((with_reducible refine box_row (o := ⟨some 4, _, _, _, _, _⟩) rfl _ _ rfl (ldC l.q l.u l.h l.n a2 n2 c2) rfl ?_); intro w2 hr hb hz; have RB2 := Lib.hid hr; have RA2 := Lib.hid (RA1.out.below hb RA1.out.lt); have B2 := Lib.hid (B1.out.trans (hb.mono B1.out.size)); have S2 := Lib.hid (show w1.heap.size < w2.heap.size by omega); clear hr hb hz)
    | ((with_reducible refine box_row (o := ⟨some 5, _, _, _, _, _⟩) rfl _ _ rfl [.int .i64 1, .int .i64 id, .int .i64 nn, .int .i64 i1, .int .i64 i2, .int .i64 i3, .int .i64 i4, .int .i64 i5, .string sp] rfl ?_); intro w3 hr hb hz; have RD3 := Lib.hid hr; have RA3 := Lib.hid (RA2.out.below hb RA2.out.lt); have RB3 := Lib.hid (RB2.out.below hb RB2.out.lt); have B3 := Lib.hid (B2.out.trans (hb.mono B2.out.size)); have S3 := Lib.hid (show w2.heap.size < w3.heap.size by omega); clear hr hb hz)
    | ((with_reducible refine alloc_row (o := ⟨some 6, _, _, _, _, _⟩) rfl _ rfl _ LZ.out ?_); intro w4 hr hb hz; have R64 := Lib.hid hr; have RA4 := Lib.hid (RA3.out.below hb RA3.out.lt); have RB4 := Lib.hid (RB3.out.below hb RB3.out.lt); have RD4 := Lib.hid (RD3.out.below hb RD3.out.lt); have B4 := Lib.hid (B3.out.trans (hb.mono B3.out.size)); have S4 := Lib.hid (show w3.heap.size < w4.heap.size by omega); clear hr hb hz)
    | ((with_reducible refine alloc_row (o := ⟨some 7, _, _, _, _, _⟩) rfl _ rfl _ LZ.out ?_); intro w5 hr hb hz; have R75 := Lib.hid hr; have RA5 := Lib.hid (RA4.out.below hb RA4.out.lt); have RB5 := Lib.hid (RB4.out.below hb RB4.out.lt); have RD5 := Lib.hid (RD4.out.below hb RD4.out.lt); have R65 := Lib.hid (R64.out.below hb R64.out.lt); have B5 := Lib.hid (B4.out.trans (hb.mono B4.out.size)); have S5 := Lib.hid (show w4.heap.size < w5.heap.size by omega); clear hr hb hz)
    | ((with_reducible refine alloc_row (o := ⟨some 9, _, _, _, _, _⟩) rfl _ rfl _ LZ.out ?_); intro w6 hr hb hz; have R96 := Lib.hid hr; have RA6 := Lib.hid (RA5.out.below hb RA5.out.lt); have RB6 := Lib.hid (RB5.out.below hb RB5.out.lt); have RD6 := Lib.hid (RD5.out.below hb RD5.out.lt); have R66 := Lib.hid (R65.out.below hb R65.out.lt); have R76 := Lib.hid (R75.out.below hb R75.out.lt); have B6 := Lib.hid (B5.out.trans (hb.mono B5.out.size)); have S6 := Lib.hid (show w5.heap.size < w6.heap.size by omega); clear hr hb hz)
    | ((with_reducible refine alloc_row (o := ⟨some 10, _, _, _, _, _⟩) rfl _ rfl _ LZ.out ?_); intro w7 hr hb hz; have RX7 := Lib.hid hr; have RA7 := Lib.hid (RA6.out.below hb RA6.out.lt); have RB7 := Lib.hid (RB6.out.below hb RB6.out.lt); have RD7 := Lib.hid (RD6.out.below hb RD6.out.lt); have R67 := Lib.hid (R66.out.below hb R66.out.lt); have R77 := Lib.hid (R76.out.below hb R76.out.lt); have R97 := Lib.hid (R96.out.below hb R96.out.lt); have B7 := Lib.hid (B6.out.trans (hb.mono B6.out.size)); have S7 := Lib.hid (show w6.heap.size < w7.heap.size by omega); obtain ⟨d0, d1, d2, d3, d4, d5, d6, d7, d8⟩ := RD7.out.d9; clear hr hb hz)
    | ((with_reducible refine load_row (o := ⟨some 36, _, _, _, _, _⟩) rfl _ _ rfl w.heap.size ?_ _ (ldC l.q l.u l.h l.n a n c) _ RA7.out Try.underlying50 rfl ?_ ?_); (focus go_simp); (focus (exact LZS.out)))
    | ((with_reducible refine load_cells (o := ⟨some 38, _, _, _, _, _⟩) rfl _ _ rfl w2.heap.size 3 ?_ [.int .i64 i1, .int .i64 i2, .int .i64 i3, .int .i64 i4, .int .i64 i5, .string sp] _ (fun j' u' hj => RD7.out.hold j' u' hj) Try.underlying52 rfl ?_ ?_); (focus go_simp); (focus (exact HSZ.out)))
    | ((with_reducible refine load_cells (o := ⟨some 46, _, _, _, _, _⟩) rfl _ _ rfl w2.heap.size 3 ?_ [.int .i64 i1, .int .i64 i2, .int .i64 i3, .int .i64 i4, .int .i64 i5, .string sp] _ (fun j' u' hj => RD9.out.hold j' u' hj) Try.underlying52 rfl ?_ ?_); (focus go_simp); (focus (exact HSZ.out)))
    | (go_at_call 49; (with_reducible refine (HP.out w7 (HV.out.mono B7.out)).mono ?_); rw [HM.out]; rintro e w8 ⟨v8, rfl, ⟨a8, n8, c8, rfl, hl⟩, hb⟩; have L8 := Lib.hid hl; have RA8 := Lib.hid (RA7.out.below hb RA7.out.lt); have RB8 := Lib.hid (RB7.out.below hb RB7.out.lt); have RD8 := Lib.hid (RD7.out.below hb RD7.out.lt); have R68 := Lib.hid (R67.out.below hb R67.out.lt); have R78 := Lib.hid (R77.out.below hb R77.out.lt); have R98 := Lib.hid (R97.out.below hb R97.out.lt); have RX8 := Lib.hid (RX7.out.below hb RX7.out.lt); have B8 := Lib.hid (B7.out.trans (hb.mono B7.out.size)); clear hl hb d0 d1 d2 d3 d4 d5 d6 d7 d8)
    | ((with_reducible refine store_row (o := ⟨none, _, _, _, _, _⟩) rfl _ (.tmp 9) _ rfl w5.heap.size (ldC m1.q m1.u m1.h m1.n a8 n8 c8) ?_ ?_ 50 _ R98.out ?_ ?_ ?_ ?_); (focus go_simp); (focus (first | (go_simp; done) | (go_simp; rfl))); (focus (exact LZS.out)); (focus rfl); (focus (exact ld_one _ _ _ _ _ _ _)); intro w9 hr hu; have R99 := Lib.hid hr; have RA9 := Lib.hid (RA8.out.upd hu (Nat.ne_of_lt ((Nat.lt_of_lt_of_le RA1.out.lt (Nat.le_trans (Nat.le_of_lt S2.out) (Nat.le_trans (Nat.le_of_lt S3.out) (Nat.le_trans (Nat.le_of_lt S4.out) (Nat.le_of_lt S5.out)))))))); have RB9 := Lib.hid (RB8.out.upd hu (Nat.ne_of_lt (Nat.lt_trans S2.out (Nat.lt_trans S3.out (Nat.lt_trans S4.out S5.out))))); have RD9 := Lib.hid (RD8.out.upd hu (Nat.ne_of_lt (Nat.lt_trans S3.out (Nat.lt_trans S4.out S5.out)))); have R69 := Lib.hid (R68.out.upd hu (Nat.ne_of_lt (Nat.lt_trans S4.out S5.out))); have R79 := Lib.hid (R78.out.upd hu (Nat.ne_of_lt S5.out)); have RX9 := Lib.hid (RX8.out.upd hu (Nat.ne_of_gt S6.out)); have L9 := Lib.hid (L8.out.upd5 R98.out (show 5 ≤ 5 from Nat.le_refl 5) hu); have B9 := Lib.hid (B8.out.trans (hu.below B5.out.size)); obtain ⟨d0, d1, d2, d3, d4, d5, d6, d7, d8⟩ := RD9.out.d9; clear hr hu)
    | ((with_reducible refine load_row (o := ⟨some 44, _, _, _, _, _⟩) rfl _ _ rfl w1.heap.size ?_ _ (ldC l.q l.u l.h l.n a2 n2 c2) _ RB9.out Try.underlying50 rfl ?_ ?_); (focus go_simp); (focus (exact LZS.out)))
    | (go_at_call 96; (with_reducible refine (HY.out w9 (HX.out.mono B9.out)).mono ?_); rw [HM.out]; rintro e w10 ⟨v10, rfl, ⟨a10, n10, c10, rfl, hl⟩, hb⟩; have L10 := Lib.hid hl; have K10 := Lib.hid (L9.out.mono hdOk hb); have R910 := Lib.hid (R99.out.below hb R99.out.lt); have R610 := Lib.hid (R69.out.below hb R69.out.lt); have R710 := Lib.hid (R79.out.below hb R79.out.lt); have RX10 := Lib.hid (RX9.out.below hb RX9.out.lt); have B10 := Lib.hid (B9.out.trans (hb.mono B9.out.size)); clear hl hb d0 d1 d2 d3 d4 d5 d6 d7 d8)
    | ((with_reducible refine store_row (o := ⟨none, _, _, _, _, _⟩) rfl _ (.tmp 10) _ rfl w6.heap.size (ldC m1.q m1.u m1.h m1.n a10 n10 c10) ?_ ?_ 50 _ RX10.out ?_ ?_ ?_ ?_); (focus go_simp); (focus (first | (go_simp; done) | (go_simp; rfl))); (focus (exact LZS.out)); (focus rfl); (focus (exact ld_one _ _ _ _ _ _ _)); intro w11 hr hu; have RX11 := Lib.hid hr; have R911 := Lib.hid (R910.out.upd hu (Nat.ne_of_lt S6.out)); have R611 := Lib.hid (R610.out.upd hu (Nat.ne_of_lt (Nat.lt_trans S4.out (Nat.lt_trans S5.out S6.out)))); have R711 := Lib.hid (R710.out.upd hu (Nat.ne_of_lt (Nat.lt_trans S5.out S6.out))); have L11 := Lib.hid (L10.out.upd5 RX10.out (show 5 ≤ 5 from Nat.le_refl 5) hu); have K11 := Lib.hid (K10.out.upd5 RX10.out (show 5 ≤ 5 from Nat.le_refl 5) hu); have B11 := Lib.hid (B10.out.trans (hu.below B6.out.size)); clear hr hu))
  refine region_h (fun v => Row v w5.heap.size 50 (ldC m1.q m1.u m1.h m1.n a8 n8 c8) ∧ Row v w6.heap.size 50 (ldC m1.q m1.u m1.h m1.n a10 n10 c10)) (by kernel_rfl) (by kernel_rfl) (And.intro (R911.out.drewN 1) (RX11.out.drewN 1)) ?_
  obtain ⟨wd, hwd⟩ : ∃ wd, w11.drew = wd := ⟨_, rfl⟩
  have D0 : Hid (Below w11.heap.size w11 wd) := Lib.hid (by rw [← hwd]; exact (Below.refl _ _).drew)
  rw [hwd]
  clear hwd
  (refine h_read 0 rfl (by kernel_rfl) (by kernel_rfl) (h_free rfl) ?_ ?_ ?_; rotate_left; (focus (intro v hv; refine run_cells 50 (.tmp 9) ?_ w5.heap.size 0 ?_ (ldC m1.q m1.u m1.h m1.n a8 n8 c8) _ (fun j' u' hj => by rw [Nat.zero_add, hv.1.cellV]; exact hj) Try.underlying50 rfl ld_size; (focus rfl); go_simp)); go_simp)
  (refine h_read 1 rfl (by kernel_rfl) (by kernel_rfl) (h_free rfl) ?_ ?_ ?_; rotate_left; (focus (intro v hv; refine run_cells 50 (.tmp 10) ?_ w6.heap.size 0 ?_ (ldC m1.q m1.u m1.h m1.n a10 n10 c10) _ (fun j' u' hj => by rw [Nat.zero_add, hv.2.cellV]; exact hj) Try.underlying50 rfl ld_size; (focus rfl); go_simp)); go_simp)
  (refine h_read 2 rfl (by kernel_rfl) (by kernel_rfl) (h_free rfl) ?_ ?_ ?_; rotate_left; (focus (intro v hv; go_simp; rfl)); go_simp)
  (refine h_read 3 rfl (by kernel_rfl) (by kernel_rfl) (h_free rfl) ?_ ?_ ?_; rotate_left; (focus (intro v hv; go_simp; rfl)); go_simp)
  (refine h_read 4 rfl (by kernel_rfl) (by kernel_rfl) (h_free rfl) ?_ ?_ ?_; rotate_left; (focus (intro v hv; go_simp; rfl)); go_simp)
  (refine h_read 5 rfl (by kernel_rfl) (by kernel_rfl) (h_free rfl) ?_ ?_ ?_; rotate_left; (focus (intro v hv; go_simp; rfl)); go_simp)
  (refine h_read 6 rfl (by kernel_rfl) (by kernel_rfl) ?_ ?_ ?_ ?_; (focus (go_simp; done)); rotate_left; (focus (intro v hv; go_simp; rfl)); go_simp)
  (refine h_read 7 rfl (by kernel_rfl) (by kernel_rfl) ?_ ?_ ?_ ?_; (focus (go_simp; done)); rotate_left; (focus (intro v hv; go_simp; rfl)); go_simp)
  (refine h_read 8 rfl (by kernel_rfl) (by kernel_rfl) ?_ ?_ ?_ ?_; (focus (go_simp; done)); rotate_left; (focus (intro v hv; go_simp; rfl)); go_simp)
  (refine h_read 9 rfl (by kernel_rfl) (by kernel_rfl) (h_free rfl) ?_ ?_ ?_; rotate_left; (focus (intro v hv; go_simp; rfl)); go_simp)
  (refine h_read 10 rfl (by kernel_rfl) (by kernel_rfl) (h_free rfl) ?_ ?_ ?_; rotate_left; (focus (intro v hv; go_simp; rfl)); go_simp)
  (refine h_read 11 rfl (by kernel_rfl) (by kernel_rfl) ?_ ?_ ?_ ?_; (focus (go_simp; done)); rotate_left; (focus (intro v hv; refine run_cells 50 (.tmp 9) ?_ w5.heap.size 0 ?_ (ldC m1.q m1.u m1.h m1.n a8 n8 c8) _ (fun j' u' hj => by rw [Nat.zero_add, hv.1.cellV]; exact hj) Try.underlying50 rfl ld_size; (focus rfl); go_simp)); go_simp)
  (refine h_read 12 rfl (by kernel_rfl) (by kernel_rfl) ?_ ?_ ?_ ?_; (focus (go_simp; done)); rotate_left; (focus (intro v hv; refine run_cells 50 (.tmp 10) ?_ w6.heap.size 0 ?_ (ldC m1.q m1.u m1.h m1.n a10 n10 c10) _ (fun j' u' hj => by rw [Nat.zero_add, hv.2.cellV]; exact hj) Try.underlying50 rfl ld_size; (focus rfl); go_simp)); go_simp)
  (refine h_call 13 rfl (by kernel_rfl) ?_ 56 ?_ ?_ ?_; (focus (go_simp; done)); rotate_left; (focus (go_simp; rfl)))
  refine (ysame m1.q m1.u m1.h m1.n a8 n8 c8 m1.L m1.q m1.u m1.h m1.n a10 n10 c10 m1.L wd (K11.out.mono hdOk D0.out) (L11.out.mono hdOk D0.out) true (by simp)).mono ?_
  rintro e w12 ⟨rfl, hb⟩
  have D12 := Lib.hid (D0.out.trans (hb.mono D0.out.size))
  have R912 := Lib.hid (R911.out.below D12.out R911.out.lt)
  have RX12 := Lib.hid (RX11.out.below D12.out RX11.out.lt)
  have R612 := Lib.hid (R611.out.below D12.out R611.out.lt)
  have R712 := Lib.hid (R711.out.below D12.out R711.out.lt)
  have K12 := Lib.hid (K11.out.mono hdOk D12.out)
  have L12 := Lib.hid (L11.out.mono hdOk D12.out)
  have B12 := Lib.hid (B11.out.trans (D12.out.mono B11.out.size))
  clear hb
  refine ⟨_, rfl, ⟨R912.out, RX12.out⟩, ?_⟩
  go_simp
  (refine h_read 14 rfl (by kernel_rfl) (by kernel_rfl) (h_free rfl) ?_ ?_ ?_; rotate_left; (focus (intro v hv; go_simp; rfl)); go_simp)
  (refine h_list 15 rfl (by kernel_rfl) ?_; intro K hK)
  refine store_row rfl _ _ _ rfl w3.heap.size (ldC m1.q m1.u m1.h m1.n a8 n8 c8) (by go_simp) (by go_simp) 50 _ R612.out LZS.out rfl (ld_one _ _ _ _ _ _ _) ?_
  intro w13 hr hu
  have R613 := Lib.hid hr
  have R913 := Lib.hid (R912.out.upd hu (Nat.ne_of_gt (Nat.lt_trans S4.out S5.out)))
  have RX13 := Lib.hid (RX12.out.upd hu (Nat.ne_of_gt (Nat.lt_trans S4.out (Nat.lt_trans S5.out S6.out))))
  have R713 := Lib.hid (R712.out.upd hu (Nat.ne_of_gt S4.out))
  have K13 := Lib.hid (K12.out.upd5 R612.out (show 5 ≤ 5 from Nat.le_refl 5) hu)
  have L13 := Lib.hid (L12.out.upd5 R612.out (show 5 ≤ 5 from Nat.le_refl 5) hu)
  have B13 := Lib.hid (B12.out.trans (hu.below B3.out.size))
  clear hr hu
  refine hK _ _ ⟨R913.out, RX13.out⟩ ?_
  go_simp
  (refine h_list 16 rfl (by kernel_rfl) ?_; intro K hK)
  refine store_row rfl _ _ _ rfl w4.heap.size (ldC m1.q m1.u m1.h m1.n a10 n10 c10) (by go_simp) (by go_simp) 50 _ R713.out LZS.out rfl (ld_one _ _ _ _ _ _ _) ?_
  intro w14 hr hu
  have R714 := Lib.hid hr
  have R914 := Lib.hid (R913.out.upd hu (Nat.ne_of_gt S5.out))
  have RX14 := Lib.hid (RX13.out.upd hu (Nat.ne_of_gt (Nat.lt_trans S5.out S6.out)))
  have R614 := Lib.hid (R613.out.upd hu (Nat.ne_of_lt S4.out))
  have K14 := Lib.hid (K13.out.upd5 R713.out (show 5 ≤ 5 from Nat.le_refl 5) hu)
  have L14 := Lib.hid (L13.out.upd5 R713.out (show 5 ≤ 5 from Nat.le_refl 5) hu)
  have B14 := Lib.hid (B13.out.trans (hu.below B4.out.size))
  clear hr hu
  refine hK _ _ ⟨R914.out, RX14.out⟩ ?_
  go_simp
  (refine h_read 17 rfl (by kernel_rfl) (by kernel_rfl) (h_free rfl) ?_ ?_ ?_; rotate_left; (focus (intro v hv; go_simp; rfl)); go_simp)
  refine h_done (by kernel_rfl) ?_
  go_wp2_with fail
  exact bodyPost_ret (results_cc_tmp rfl _ _ w3.heap.size w4.heap.size 50 50 _ _ _ _ _ (by go_simp) (by go_simp) R614.out R714.out Try.underlying50 rfl LZS.out LZS.out) rfl ⟨_, _, rfl, ⟨_, _, _, rfl, K14.out⟩, ⟨_, _, _, rfl, L14.out⟩, B14.out⟩
set_option maxRecDepth 100000 in
set_option maxHeartbeats 16000000 in
theorem do19_reserve2 (hP : LdP) (a a2 : Option Addr) (n c n2 c2 : Nat) (l : Ld) (id nn i1 i2 i3 i4 i5 : Int) (sp : ByteArray) (w : World) (hv : Ls hdE w a n c l.L) (hx : Ls hdE w a2 n2 c2 l.L) (hok : OkL l) (hd : Hd.fit ⟨i1, i2, i3, i4, i5, sp⟩) :
    Calls Try.prog 45 #[.agg (ldC l.q l.u l.h l.n a n c).toArray, .agg (ldC l.q l.u l.h l.n a2 n2 c2).toArray, .agg [.int .i64 2, .int .i64 id, .int .i64 nn, .int .i64 i1, .int .i64 i2, .int .i64 i3, .int .i64 i4, .int .i64 i5, .string sp].toArray] w fun e w' => ∃ v' x', e = .returned (.tuple #[v', x', .bool true]) ∧ LdV w' v' (l.reserve ⟨i1, i2, i3, i4, i5, sp⟩).1 ∧ LdV w' x' (l.reserve ⟨i1, i2, i3, i4, i5, sp⟩).1 ∧ Below w.heap.size w w' := by
  have LZS := Lib.hid ld_size
  have LZ := Lib.hid ld_zero
  have HSZ := Lib.hid hd_size
  have HV : Hid (LdV w (.agg (ldC l.q l.u l.h l.n a n c).toArray) l) := Lib.hid ⟨a, n, c, rfl, hv⟩
  have HX : Hid (LdV w (.agg (ldC l.q l.u l.h l.n a2 n2 c2).toArray) l) := Lib.hid ⟨a2, n2, c2, rfl, hx⟩
  have HP := Lib.hid (fun w' h => hP.reserve (.agg (ldC l.q l.u l.h l.n a n c).toArray) l ⟨i1, i2, i3, i4, i5, sp⟩ w' h hok hd)
  have HY := Lib.hid (fun w' h => yreserve (.agg (ldC l.q l.u l.h l.n a2 n2 c2).toArray) l ⟨i1, i2, i3, i4, i5, sp⟩ w' h hok hd)
  obtain ⟨m1, m2, m3, hm⟩ : ∃ x y z, l.reserve ⟨i1, i2, i3, i4, i5, sp⟩ = (x, y, z) := ⟨_, _, _, rfl⟩
  have HM := Lib.hid hm
  rw [hm]
  clear hP hv hx hok hd hm
  go_enter Try.func45, Try.ntmps45
  go_wp2_with (first
    | ((with_reducible refine box_row (o := ⟨some 3, _, _, _, _, _⟩) rfl _ _ rfl (ldC l.q l.u l.h l.n a n c) rfl ?_); intro w1 hr hb hz; have RA1 := Lib.hid hr; have B1 := Lib.hid hb; have S1 := Lib.hid (show w.heap.size < w1.heap.size by omega); clear hr hb hz)
    | ((with_reducible refine box_row (o := ⟨some 4, _, _, _, _, _⟩) rfl _ _ rfl (ldC l.q l.u l.h l.n a2 n2 c2) rfl ?_); intro w2 hr hb hz; have RB2 := Lib.hid hr; have RA2 := Lib.hid (RA1.out.below hb RA1.out.lt); have B2 := Lib.hid (B1.out.trans (hb.mono B1.out.size)); have S2 := Lib.hid (show w1.heap.size < w2.heap.size by omega); clear hr hb hz)
    | ((with_reducible refine box_row (o := ⟨some 5, _, _, _, _, _⟩) rfl _ _ rfl [.int .i64 2, .int .i64 id, .int .i64 nn, .int .i64 i1, .int .i64 i2, .int .i64 i3, .int .i64 i4, .int .i64 i5, .string sp] rfl ?_); intro w3 hr hb hz; have RD3 := Lib.hid hr; have RA3 := Lib.hid (RA2.out.below hb RA2.out.lt); have RB3 := Lib.hid (RB2.out.below hb RB2.out.lt); have B3 := Lib.hid (B2.out.trans (hb.mono B2.out.size)); have S3 := Lib.hid (show w2.heap.size < w3.heap.size by omega); clear hr hb hz)
    | ((with_reducible refine alloc_row (o := ⟨some 6, _, _, _, _, _⟩) rfl _ rfl _ LZ.out ?_); intro w4 hr hb hz; have R64 := Lib.hid hr; have RA4 := Lib.hid (RA3.out.below hb RA3.out.lt); have RB4 := Lib.hid (RB3.out.below hb RB3.out.lt); have RD4 := Lib.hid (RD3.out.below hb RD3.out.lt); have B4 := Lib.hid (B3.out.trans (hb.mono B3.out.size)); have S4 := Lib.hid (show w3.heap.size < w4.heap.size by omega); clear hr hb hz)
    | ((with_reducible refine alloc_row (o := ⟨some 7, _, _, _, _, _⟩) rfl _ rfl _ LZ.out ?_); intro w5 hr hb hz; have R75 := Lib.hid hr; have RA5 := Lib.hid (RA4.out.below hb RA4.out.lt); have RB5 := Lib.hid (RB4.out.below hb RB4.out.lt); have RD5 := Lib.hid (RD4.out.below hb RD4.out.lt); have R65 := Lib.hid (R64.out.below hb R64.out.lt); have B5 := Lib.hid (B4.out.trans (hb.mono B4.out.size)); have S5 := Lib.hid (show w4.heap.size < w5.heap.size by omega); clear hr hb hz)
    | ((with_reducible refine alloc_row (o := ⟨some 9, _, _, _, _, _⟩) rfl _ rfl _ LZ.out ?_); intro w6 hr hb hz; have R96 := Lib.hid hr; have RA6 := Lib.hid (RA5.out.below hb RA5.out.lt); have RB6 := Lib.hid (RB5.out.below hb RB5.out.lt); have RD6 := Lib.hid (RD5.out.below hb RD5.out.lt); have R66 := Lib.hid (R65.out.below hb R65.out.lt); have R76 := Lib.hid (R75.out.below hb R75.out.lt); have B6 := Lib.hid (B5.out.trans (hb.mono B5.out.size)); have S6 := Lib.hid (show w5.heap.size < w6.heap.size by omega); clear hr hb hz)
    | ((with_reducible refine alloc_row (o := ⟨some 10, _, _, _, _, _⟩) rfl _ rfl _ LZ.out ?_); intro w7 hr hb hz; have RX7 := Lib.hid hr; have RA7 := Lib.hid (RA6.out.below hb RA6.out.lt); have RB7 := Lib.hid (RB6.out.below hb RB6.out.lt); have RD7 := Lib.hid (RD6.out.below hb RD6.out.lt); have R67 := Lib.hid (R66.out.below hb R66.out.lt); have R77 := Lib.hid (R76.out.below hb R76.out.lt); have R97 := Lib.hid (R96.out.below hb R96.out.lt); have B7 := Lib.hid (B6.out.trans (hb.mono B6.out.size)); have S7 := Lib.hid (show w6.heap.size < w7.heap.size by omega); obtain ⟨d0, d1, d2, d3, d4, d5, d6, d7, d8⟩ := RD7.out.d9; clear hr hb hz)
    | ((with_reducible refine load_row (o := ⟨some 36, _, _, _, _, _⟩) rfl _ _ rfl w.heap.size ?_ _ (ldC l.q l.u l.h l.n a n c) _ RA7.out Try.underlying50 rfl ?_ ?_); (focus go_simp); (focus (exact LZS.out)))
    | ((with_reducible refine load_cells (o := ⟨some 38, _, _, _, _, _⟩) rfl _ _ rfl w2.heap.size 3 ?_ [.int .i64 i1, .int .i64 i2, .int .i64 i3, .int .i64 i4, .int .i64 i5, .string sp] _ (fun j' u' hj => RD7.out.hold j' u' hj) Try.underlying52 rfl ?_ ?_); (focus go_simp); (focus (exact HSZ.out)))
    | ((with_reducible refine load_cells (o := ⟨some 46, _, _, _, _, _⟩) rfl _ _ rfl w2.heap.size 3 ?_ [.int .i64 i1, .int .i64 i2, .int .i64 i3, .int .i64 i4, .int .i64 i5, .string sp] _ (fun j' u' hj => RD9.out.hold j' u' hj) Try.underlying52 rfl ?_ ?_); (focus go_simp); (focus (exact HSZ.out)))
    | (go_at_call 49; (with_reducible refine (HP.out w7 (HV.out.mono B7.out)).mono ?_); rw [HM.out]; rintro e w8 ⟨v8, rfl, ⟨a8, n8, c8, rfl, hl⟩, hb⟩; have L8 := Lib.hid hl; have RA8 := Lib.hid (RA7.out.below hb RA7.out.lt); have RB8 := Lib.hid (RB7.out.below hb RB7.out.lt); have RD8 := Lib.hid (RD7.out.below hb RD7.out.lt); have R68 := Lib.hid (R67.out.below hb R67.out.lt); have R78 := Lib.hid (R77.out.below hb R77.out.lt); have R98 := Lib.hid (R97.out.below hb R97.out.lt); have RX8 := Lib.hid (RX7.out.below hb RX7.out.lt); have B8 := Lib.hid (B7.out.trans (hb.mono B7.out.size)); clear hl hb d0 d1 d2 d3 d4 d5 d6 d7 d8)
    | ((with_reducible refine store_row (o := ⟨none, _, _, _, _, _⟩) rfl _ (.tmp 9) _ rfl w5.heap.size (ldC m1.q m1.u m1.h m1.n a8 n8 c8) ?_ ?_ 50 _ R98.out ?_ ?_ ?_ ?_); (focus go_simp); (focus (first | (go_simp; done) | (go_simp; rfl))); (focus (exact LZS.out)); (focus rfl); (focus (exact ld_one _ _ _ _ _ _ _)); intro w9 hr hu; have R99 := Lib.hid hr; have RA9 := Lib.hid (RA8.out.upd hu (Nat.ne_of_lt ((Nat.lt_of_lt_of_le RA1.out.lt (Nat.le_trans (Nat.le_of_lt S2.out) (Nat.le_trans (Nat.le_of_lt S3.out) (Nat.le_trans (Nat.le_of_lt S4.out) (Nat.le_of_lt S5.out)))))))); have RB9 := Lib.hid (RB8.out.upd hu (Nat.ne_of_lt (Nat.lt_trans S2.out (Nat.lt_trans S3.out (Nat.lt_trans S4.out S5.out))))); have RD9 := Lib.hid (RD8.out.upd hu (Nat.ne_of_lt (Nat.lt_trans S3.out (Nat.lt_trans S4.out S5.out)))); have R69 := Lib.hid (R68.out.upd hu (Nat.ne_of_lt (Nat.lt_trans S4.out S5.out))); have R79 := Lib.hid (R78.out.upd hu (Nat.ne_of_lt S5.out)); have RX9 := Lib.hid (RX8.out.upd hu (Nat.ne_of_gt S6.out)); have L9 := Lib.hid (L8.out.upd5 R98.out (show 5 ≤ 5 from Nat.le_refl 5) hu); have B9 := Lib.hid (B8.out.trans (hu.below B5.out.size)); obtain ⟨d0, d1, d2, d3, d4, d5, d6, d7, d8⟩ := RD9.out.d9; clear hr hu)
    | ((with_reducible refine load_row (o := ⟨some 44, _, _, _, _, _⟩) rfl _ _ rfl w1.heap.size ?_ _ (ldC l.q l.u l.h l.n a2 n2 c2) _ RB9.out Try.underlying50 rfl ?_ ?_); (focus go_simp); (focus (exact LZS.out)))
    | (go_at_call 96; (with_reducible refine (HY.out w9 (HX.out.mono B9.out)).mono ?_); rw [HM.out]; rintro e w10 ⟨v10, rfl, ⟨a10, n10, c10, rfl, hl⟩, hb⟩; have L10 := Lib.hid hl; have K10 := Lib.hid (L9.out.mono hdOk hb); have R910 := Lib.hid (R99.out.below hb R99.out.lt); have R610 := Lib.hid (R69.out.below hb R69.out.lt); have R710 := Lib.hid (R79.out.below hb R79.out.lt); have RX10 := Lib.hid (RX9.out.below hb RX9.out.lt); have B10 := Lib.hid (B9.out.trans (hb.mono B9.out.size)); clear hl hb d0 d1 d2 d3 d4 d5 d6 d7 d8)
    | ((with_reducible refine store_row (o := ⟨none, _, _, _, _, _⟩) rfl _ (.tmp 10) _ rfl w6.heap.size (ldC m1.q m1.u m1.h m1.n a10 n10 c10) ?_ ?_ 50 _ RX10.out ?_ ?_ ?_ ?_); (focus go_simp); (focus (first | (go_simp; done) | (go_simp; rfl))); (focus (exact LZS.out)); (focus rfl); (focus (exact ld_one _ _ _ _ _ _ _)); intro w11 hr hu; have RX11 := Lib.hid hr; have R911 := Lib.hid (R910.out.upd hu (Nat.ne_of_lt S6.out)); have R611 := Lib.hid (R610.out.upd hu (Nat.ne_of_lt (Nat.lt_trans S4.out (Nat.lt_trans S5.out S6.out)))); have R711 := Lib.hid (R710.out.upd hu (Nat.ne_of_lt (Nat.lt_trans S5.out S6.out))); have L11 := Lib.hid (L10.out.upd5 RX10.out (show 5 ≤ 5 from Nat.le_refl 5) hu); have K11 := Lib.hid (K10.out.upd5 RX10.out (show 5 ≤ 5 from Nat.le_refl 5) hu); have B11 := Lib.hid (B10.out.trans (hu.below B6.out.size)); clear hr hu))
  refine region_h (fun v => Row v w5.heap.size 50 (ldC m1.q m1.u m1.h m1.n a8 n8 c8) ∧ Row v w6.heap.size 50 (ldC m1.q m1.u m1.h m1.n a10 n10 c10)) (by kernel_rfl) (by kernel_rfl) (And.intro (R911.out.drewN 1) (RX11.out.drewN 1)) ?_
  obtain ⟨wd, hwd⟩ : ∃ wd, w11.drew = wd := ⟨_, rfl⟩
  have D0 : Hid (Below w11.heap.size w11 wd) := Lib.hid (by rw [← hwd]; exact (Below.refl _ _).drew)
  rw [hwd]
  clear hwd
  (refine h_read 0 rfl (by kernel_rfl) (by kernel_rfl) (h_free rfl) ?_ ?_ ?_; rotate_left; (focus (intro v hv; refine run_cells 50 (.tmp 9) ?_ w5.heap.size 0 ?_ (ldC m1.q m1.u m1.h m1.n a8 n8 c8) _ (fun j' u' hj => by rw [Nat.zero_add, hv.1.cellV]; exact hj) Try.underlying50 rfl ld_size; (focus rfl); go_simp)); go_simp)
  (refine h_read 1 rfl (by kernel_rfl) (by kernel_rfl) (h_free rfl) ?_ ?_ ?_; rotate_left; (focus (intro v hv; refine run_cells 50 (.tmp 10) ?_ w6.heap.size 0 ?_ (ldC m1.q m1.u m1.h m1.n a10 n10 c10) _ (fun j' u' hj => by rw [Nat.zero_add, hv.2.cellV]; exact hj) Try.underlying50 rfl ld_size; (focus rfl); go_simp)); go_simp)
  (refine h_read 2 rfl (by kernel_rfl) (by kernel_rfl) (h_free rfl) ?_ ?_ ?_; rotate_left; (focus (intro v hv; go_simp; rfl)); go_simp)
  (refine h_read 3 rfl (by kernel_rfl) (by kernel_rfl) (h_free rfl) ?_ ?_ ?_; rotate_left; (focus (intro v hv; go_simp; rfl)); go_simp)
  (refine h_read 4 rfl (by kernel_rfl) (by kernel_rfl) (h_free rfl) ?_ ?_ ?_; rotate_left; (focus (intro v hv; go_simp; rfl)); go_simp)
  (refine h_read 5 rfl (by kernel_rfl) (by kernel_rfl) (h_free rfl) ?_ ?_ ?_; rotate_left; (focus (intro v hv; go_simp; rfl)); go_simp)
  (refine h_read 6 rfl (by kernel_rfl) (by kernel_rfl) ?_ ?_ ?_ ?_; (focus (go_simp; done)); rotate_left; (focus (intro v hv; go_simp; rfl)); go_simp)
  (refine h_read 7 rfl (by kernel_rfl) (by kernel_rfl) ?_ ?_ ?_ ?_; (focus (go_simp; done)); rotate_left; (focus (intro v hv; go_simp; rfl)); go_simp)
  (refine h_read 8 rfl (by kernel_rfl) (by kernel_rfl) ?_ ?_ ?_ ?_; (focus (go_simp; done)); rotate_left; (focus (intro v hv; go_simp; rfl)); go_simp)
  (refine h_read 9 rfl (by kernel_rfl) (by kernel_rfl) (h_free rfl) ?_ ?_ ?_; rotate_left; (focus (intro v hv; go_simp; rfl)); go_simp)
  (refine h_read 10 rfl (by kernel_rfl) (by kernel_rfl) (h_free rfl) ?_ ?_ ?_; rotate_left; (focus (intro v hv; go_simp; rfl)); go_simp)
  (refine h_read 11 rfl (by kernel_rfl) (by kernel_rfl) ?_ ?_ ?_ ?_; (focus (go_simp; done)); rotate_left; (focus (intro v hv; refine run_cells 50 (.tmp 9) ?_ w5.heap.size 0 ?_ (ldC m1.q m1.u m1.h m1.n a8 n8 c8) _ (fun j' u' hj => by rw [Nat.zero_add, hv.1.cellV]; exact hj) Try.underlying50 rfl ld_size; (focus rfl); go_simp)); go_simp)
  (refine h_read 12 rfl (by kernel_rfl) (by kernel_rfl) ?_ ?_ ?_ ?_; (focus (go_simp; done)); rotate_left; (focus (intro v hv; refine run_cells 50 (.tmp 10) ?_ w6.heap.size 0 ?_ (ldC m1.q m1.u m1.h m1.n a10 n10 c10) _ (fun j' u' hj => by rw [Nat.zero_add, hv.2.cellV]; exact hj) Try.underlying50 rfl ld_size; (focus rfl); go_simp)); go_simp)
  (refine h_call 13 rfl (by kernel_rfl) ?_ 56 ?_ ?_ ?_; (focus (go_simp; done)); rotate_left; (focus (go_simp; rfl)))
  refine (ysame m1.q m1.u m1.h m1.n a8 n8 c8 m1.L m1.q m1.u m1.h m1.n a10 n10 c10 m1.L wd (K11.out.mono hdOk D0.out) (L11.out.mono hdOk D0.out) true (by simp)).mono ?_
  rintro e w12 ⟨rfl, hb⟩
  have D12 := Lib.hid (D0.out.trans (hb.mono D0.out.size))
  have R912 := Lib.hid (R911.out.below D12.out R911.out.lt)
  have RX12 := Lib.hid (RX11.out.below D12.out RX11.out.lt)
  have R612 := Lib.hid (R611.out.below D12.out R611.out.lt)
  have R712 := Lib.hid (R711.out.below D12.out R711.out.lt)
  have K12 := Lib.hid (K11.out.mono hdOk D12.out)
  have L12 := Lib.hid (L11.out.mono hdOk D12.out)
  have B12 := Lib.hid (B11.out.trans (D12.out.mono B11.out.size))
  clear hb
  refine ⟨_, rfl, ⟨R912.out, RX12.out⟩, ?_⟩
  go_simp
  (refine h_read 14 rfl (by kernel_rfl) (by kernel_rfl) (h_free rfl) ?_ ?_ ?_; rotate_left; (focus (intro v hv; go_simp; rfl)); go_simp)
  (refine h_list 15 rfl (by kernel_rfl) ?_; intro K hK)
  refine store_row rfl _ _ _ rfl w3.heap.size (ldC m1.q m1.u m1.h m1.n a8 n8 c8) (by go_simp) (by go_simp) 50 _ R612.out LZS.out rfl (ld_one _ _ _ _ _ _ _) ?_
  intro w13 hr hu
  have R613 := Lib.hid hr
  have R913 := Lib.hid (R912.out.upd hu (Nat.ne_of_gt (Nat.lt_trans S4.out S5.out)))
  have RX13 := Lib.hid (RX12.out.upd hu (Nat.ne_of_gt (Nat.lt_trans S4.out (Nat.lt_trans S5.out S6.out))))
  have R713 := Lib.hid (R712.out.upd hu (Nat.ne_of_gt S4.out))
  have K13 := Lib.hid (K12.out.upd5 R612.out (show 5 ≤ 5 from Nat.le_refl 5) hu)
  have L13 := Lib.hid (L12.out.upd5 R612.out (show 5 ≤ 5 from Nat.le_refl 5) hu)
  have B13 := Lib.hid (B12.out.trans (hu.below B3.out.size))
  clear hr hu
  refine hK _ _ ⟨R913.out, RX13.out⟩ ?_
  go_simp
  (refine h_list 16 rfl (by kernel_rfl) ?_; intro K hK)
  refine store_row rfl _ _ _ rfl w4.heap.size (ldC m1.q m1.u m1.h m1.n a10 n10 c10) (by go_simp) (by go_simp) 50 _ R713.out LZS.out rfl (ld_one _ _ _ _ _ _ _) ?_
  intro w14 hr hu
  have R714 := Lib.hid hr
  have R914 := Lib.hid (R913.out.upd hu (Nat.ne_of_gt S5.out))
  have RX14 := Lib.hid (RX13.out.upd hu (Nat.ne_of_gt (Nat.lt_trans S5.out S6.out)))
  have R614 := Lib.hid (R613.out.upd hu (Nat.ne_of_lt S4.out))
  have K14 := Lib.hid (K13.out.upd5 R713.out (show 5 ≤ 5 from Nat.le_refl 5) hu)
  have L14 := Lib.hid (L13.out.upd5 R713.out (show 5 ≤ 5 from Nat.le_refl 5) hu)
  have B14 := Lib.hid (B13.out.trans (hu.below B4.out.size))
  clear hr hu
  refine hK _ _ ⟨R914.out, RX14.out⟩ ?_
  go_simp
  (refine h_read 17 rfl (by kernel_rfl) (by kernel_rfl) (h_free rfl) ?_ ?_ ?_; rotate_left; (focus (intro v hv; go_simp; rfl)); go_simp)
  refine h_done (by kernel_rfl) ?_
  go_wp2_with fail
  exact bodyPost_ret (results_cc_tmp rfl _ _ w3.heap.size w4.heap.size 50 50 _ _ _ _ _ (by go_simp) (by go_simp) R614.out R714.out Try.underlying50 rfl LZS.out LZS.out) rfl ⟨_, _, rfl, ⟨_, _, _, rfl, K14.out⟩, ⟨_, _, _, rfl, L14.out⟩, B14.out⟩
set_option maxRecDepth 100000 in
set_option maxHeartbeats 16000000 in
theorem do19_spend (hP : LdP) (a a2 : Option Addr) (n c n2 c2 : Nat) (l : Ld) (id nn i1 i2 i3 i4 i5 : Int) (sp : ByteArray) (w : World) (hv : Ls hdE w a n c l.L) (hx : Ls hdE w a2 n2 c2 l.L) (hok : OkL l) (hd : Hd.fit ⟨i1, i2, i3, i4, i5, sp⟩) :
    Calls Try.prog 45 #[.agg (ldC l.q l.u l.h l.n a n c).toArray, .agg (ldC l.q l.u l.h l.n a2 n2 c2).toArray, .agg [.int .i64 4, .int .i64 id, .int .i64 nn, .int .i64 i1, .int .i64 i2, .int .i64 i3, .int .i64 i4, .int .i64 i5, .string sp].toArray] w fun e w' => ∃ v' x', e = .returned (.tuple #[v', x', .bool true]) ∧ LdV w' v' (l.spend id nn).1 ∧ LdV w' x' (l.spend id nn).1 ∧ Below w.heap.size w w' := by
  have LZS := Lib.hid ld_size
  have LZ := Lib.hid ld_zero
  have HSZ := Lib.hid hd_size
  have HV : Hid (LdV w (.agg (ldC l.q l.u l.h l.n a n c).toArray) l) := Lib.hid ⟨a, n, c, rfl, hv⟩
  have HX : Hid (LdV w (.agg (ldC l.q l.u l.h l.n a2 n2 c2).toArray) l) := Lib.hid ⟨a2, n2, c2, rfl, hx⟩
  have HP := Lib.hid (fun w' h => hP.spend (.agg (ldC l.q l.u l.h l.n a n c).toArray) l id nn w' h hok)
  have HY := Lib.hid (fun w' h => yspend (.agg (ldC l.q l.u l.h l.n a2 n2 c2).toArray) l id nn w' h hok)
  obtain ⟨m1, m2, hm⟩ : ∃ x y, l.spend id nn = (x, y) := ⟨_, _, rfl⟩
  have HM := Lib.hid hm
  rw [hm]
  clear hP hv hx hok hd hm
  go_enter Try.func45, Try.ntmps45
  go_wp2_with (first
    | ((with_reducible refine box_row (o := ⟨some 3, _, _, _, _, _⟩) rfl _ _ rfl (ldC l.q l.u l.h l.n a n c) rfl ?_); intro w1 hr hb hz; have RA1 := Lib.hid hr; have B1 := Lib.hid hb; have S1 := Lib.hid (show w.heap.size < w1.heap.size by omega); clear hr hb hz)
    | ((with_reducible refine box_row (o := ⟨some 4, _, _, _, _, _⟩) rfl _ _ rfl (ldC l.q l.u l.h l.n a2 n2 c2) rfl ?_); intro w2 hr hb hz; have RB2 := Lib.hid hr; have RA2 := Lib.hid (RA1.out.below hb RA1.out.lt); have B2 := Lib.hid (B1.out.trans (hb.mono B1.out.size)); have S2 := Lib.hid (show w1.heap.size < w2.heap.size by omega); clear hr hb hz)
    | ((with_reducible refine box_row (o := ⟨some 5, _, _, _, _, _⟩) rfl _ _ rfl [.int .i64 4, .int .i64 id, .int .i64 nn, .int .i64 i1, .int .i64 i2, .int .i64 i3, .int .i64 i4, .int .i64 i5, .string sp] rfl ?_); intro w3 hr hb hz; have RD3 := Lib.hid hr; have RA3 := Lib.hid (RA2.out.below hb RA2.out.lt); have RB3 := Lib.hid (RB2.out.below hb RB2.out.lt); have B3 := Lib.hid (B2.out.trans (hb.mono B2.out.size)); have S3 := Lib.hid (show w2.heap.size < w3.heap.size by omega); clear hr hb hz)
    | ((with_reducible refine alloc_row (o := ⟨some 6, _, _, _, _, _⟩) rfl _ rfl _ LZ.out ?_); intro w4 hr hb hz; have R64 := Lib.hid hr; have RA4 := Lib.hid (RA3.out.below hb RA3.out.lt); have RB4 := Lib.hid (RB3.out.below hb RB3.out.lt); have RD4 := Lib.hid (RD3.out.below hb RD3.out.lt); have B4 := Lib.hid (B3.out.trans (hb.mono B3.out.size)); have S4 := Lib.hid (show w3.heap.size < w4.heap.size by omega); clear hr hb hz)
    | ((with_reducible refine alloc_row (o := ⟨some 7, _, _, _, _, _⟩) rfl _ rfl _ LZ.out ?_); intro w5 hr hb hz; have R75 := Lib.hid hr; have RA5 := Lib.hid (RA4.out.below hb RA4.out.lt); have RB5 := Lib.hid (RB4.out.below hb RB4.out.lt); have RD5 := Lib.hid (RD4.out.below hb RD4.out.lt); have R65 := Lib.hid (R64.out.below hb R64.out.lt); have B5 := Lib.hid (B4.out.trans (hb.mono B4.out.size)); have S5 := Lib.hid (show w4.heap.size < w5.heap.size by omega); clear hr hb hz)
    | ((with_reducible refine alloc_row (o := ⟨some 9, _, _, _, _, _⟩) rfl _ rfl _ LZ.out ?_); intro w6 hr hb hz; have R96 := Lib.hid hr; have RA6 := Lib.hid (RA5.out.below hb RA5.out.lt); have RB6 := Lib.hid (RB5.out.below hb RB5.out.lt); have RD6 := Lib.hid (RD5.out.below hb RD5.out.lt); have R66 := Lib.hid (R65.out.below hb R65.out.lt); have R76 := Lib.hid (R75.out.below hb R75.out.lt); have B6 := Lib.hid (B5.out.trans (hb.mono B5.out.size)); have S6 := Lib.hid (show w5.heap.size < w6.heap.size by omega); clear hr hb hz)
    | ((with_reducible refine alloc_row (o := ⟨some 10, _, _, _, _, _⟩) rfl _ rfl _ LZ.out ?_); intro w7 hr hb hz; have RX7 := Lib.hid hr; have RA7 := Lib.hid (RA6.out.below hb RA6.out.lt); have RB7 := Lib.hid (RB6.out.below hb RB6.out.lt); have RD7 := Lib.hid (RD6.out.below hb RD6.out.lt); have R67 := Lib.hid (R66.out.below hb R66.out.lt); have R77 := Lib.hid (R76.out.below hb R76.out.lt); have R97 := Lib.hid (R96.out.below hb R96.out.lt); have B7 := Lib.hid (B6.out.trans (hb.mono B6.out.size)); have S7 := Lib.hid (show w6.heap.size < w7.heap.size by omega); obtain ⟨d0, d1, d2, d3, d4, d5, d6, d7, d8⟩ := RD7.out.d9; clear hr hb hz)
    | ((with_reducible refine load_row (o := ⟨some 70, _, _, _, _, _⟩) rfl _ _ rfl w.heap.size ?_ _ (ldC l.q l.u l.h l.n a n c) _ RA7.out Try.underlying50 rfl ?_ ?_); (focus go_simp); (focus (exact LZS.out)))
    | (go_at_call 98; (with_reducible refine (HP.out w7 (HV.out.mono B7.out)).mono ?_); rw [HM.out]; rintro e w8 ⟨v8, rfl, ⟨a8, n8, c8, rfl, hl⟩, hb⟩; have L8 := Lib.hid hl; have RA8 := Lib.hid (RA7.out.below hb RA7.out.lt); have RB8 := Lib.hid (RB7.out.below hb RB7.out.lt); have RD8 := Lib.hid (RD7.out.below hb RD7.out.lt); have R68 := Lib.hid (R67.out.below hb R67.out.lt); have R78 := Lib.hid (R77.out.below hb R77.out.lt); have R98 := Lib.hid (R97.out.below hb R97.out.lt); have RX8 := Lib.hid (RX7.out.below hb RX7.out.lt); have B8 := Lib.hid (B7.out.trans (hb.mono B7.out.size)); clear hl hb d0 d1 d2 d3 d4 d5 d6 d7 d8)
    | ((with_reducible refine store_row (o := ⟨none, _, _, _, _, _⟩) rfl _ (.tmp 9) _ rfl w5.heap.size (ldC m1.q m1.u m1.h m1.n a8 n8 c8) ?_ ?_ 50 _ R98.out ?_ ?_ ?_ ?_); (focus go_simp); (focus (first | (go_simp; done) | (go_simp; rfl))); (focus (exact LZS.out)); (focus rfl); (focus (exact ld_one _ _ _ _ _ _ _)); intro w9 hr hu; have R99 := Lib.hid hr; have RA9 := Lib.hid (RA8.out.upd hu (Nat.ne_of_lt ((Nat.lt_of_lt_of_le RA1.out.lt (Nat.le_trans (Nat.le_of_lt S2.out) (Nat.le_trans (Nat.le_of_lt S3.out) (Nat.le_trans (Nat.le_of_lt S4.out) (Nat.le_of_lt S5.out)))))))); have RB9 := Lib.hid (RB8.out.upd hu (Nat.ne_of_lt (Nat.lt_trans S2.out (Nat.lt_trans S3.out (Nat.lt_trans S4.out S5.out))))); have RD9 := Lib.hid (RD8.out.upd hu (Nat.ne_of_lt (Nat.lt_trans S3.out (Nat.lt_trans S4.out S5.out)))); have R69 := Lib.hid (R68.out.upd hu (Nat.ne_of_lt (Nat.lt_trans S4.out S5.out))); have R79 := Lib.hid (R78.out.upd hu (Nat.ne_of_lt S5.out)); have RX9 := Lib.hid (RX8.out.upd hu (Nat.ne_of_gt S6.out)); have L9 := Lib.hid (L8.out.upd5 R98.out (show 5 ≤ 5 from Nat.le_refl 5) hu); have B9 := Lib.hid (B8.out.trans (hu.below B5.out.size)); obtain ⟨d0, d1, d2, d3, d4, d5, d6, d7, d8⟩ := RD9.out.d9; clear hr hu)
    | ((with_reducible refine load_row (o := ⟨some 79, _, _, _, _, _⟩) rfl _ _ rfl w1.heap.size ?_ _ (ldC l.q l.u l.h l.n a2 n2 c2) _ RB9.out Try.underlying50 rfl ?_ ?_); (focus go_simp); (focus (exact LZS.out)))
    | (go_at_call 99; (with_reducible refine (HY.out w9 (HX.out.mono B9.out)).mono ?_); rw [HM.out]; rintro e w10 ⟨v10, rfl, ⟨a10, n10, c10, rfl, hl⟩, hb⟩; have L10 := Lib.hid hl; have K10 := Lib.hid (L9.out.mono hdOk hb); have R910 := Lib.hid (R99.out.below hb R99.out.lt); have R610 := Lib.hid (R69.out.below hb R69.out.lt); have R710 := Lib.hid (R79.out.below hb R79.out.lt); have RX10 := Lib.hid (RX9.out.below hb RX9.out.lt); have B10 := Lib.hid (B9.out.trans (hb.mono B9.out.size)); clear hl hb d0 d1 d2 d3 d4 d5 d6 d7 d8)
    | ((with_reducible refine store_row (o := ⟨none, _, _, _, _, _⟩) rfl _ (.tmp 10) _ rfl w6.heap.size (ldC m1.q m1.u m1.h m1.n a10 n10 c10) ?_ ?_ 50 _ RX10.out ?_ ?_ ?_ ?_); (focus go_simp); (focus (first | (go_simp; done) | (go_simp; rfl))); (focus (exact LZS.out)); (focus rfl); (focus (exact ld_one _ _ _ _ _ _ _)); intro w11 hr hu; have RX11 := Lib.hid hr; have R911 := Lib.hid (R910.out.upd hu (Nat.ne_of_lt S6.out)); have R611 := Lib.hid (R610.out.upd hu (Nat.ne_of_lt (Nat.lt_trans S4.out (Nat.lt_trans S5.out S6.out)))); have R711 := Lib.hid (R710.out.upd hu (Nat.ne_of_lt (Nat.lt_trans S5.out S6.out))); have L11 := Lib.hid (L10.out.upd5 RX10.out (show 5 ≤ 5 from Nat.le_refl 5) hu); have K11 := Lib.hid (K10.out.upd5 RX10.out (show 5 ≤ 5 from Nat.le_refl 5) hu); have B11 := Lib.hid (B10.out.trans (hu.below B6.out.size)); clear hr hu))
  refine region_h (fun v => Row v w5.heap.size 50 (ldC m1.q m1.u m1.h m1.n a8 n8 c8) ∧ Row v w6.heap.size 50 (ldC m1.q m1.u m1.h m1.n a10 n10 c10)) (by kernel_rfl) (by kernel_rfl) (And.intro (R911.out.drewN 1) (RX11.out.drewN 1)) ?_
  obtain ⟨wd, hwd⟩ : ∃ wd, w11.drew = wd := ⟨_, rfl⟩
  have D0 : Hid (Below w11.heap.size w11 wd) := Lib.hid (by rw [← hwd]; exact (Below.refl _ _).drew)
  rw [hwd]
  clear hwd
  (refine h_read 0 rfl (by kernel_rfl) (by kernel_rfl) (h_free rfl) ?_ ?_ ?_; rotate_left; (focus (intro v hv; refine run_cells 50 (.tmp 9) ?_ w5.heap.size 0 ?_ (ldC m1.q m1.u m1.h m1.n a8 n8 c8) _ (fun j' u' hj => by rw [Nat.zero_add, hv.1.cellV]; exact hj) Try.underlying50 rfl ld_size; (focus rfl); go_simp)); go_simp)
  (refine h_read 1 rfl (by kernel_rfl) (by kernel_rfl) (h_free rfl) ?_ ?_ ?_; rotate_left; (focus (intro v hv; refine run_cells 50 (.tmp 10) ?_ w6.heap.size 0 ?_ (ldC m1.q m1.u m1.h m1.n a10 n10 c10) _ (fun j' u' hj => by rw [Nat.zero_add, hv.2.cellV]; exact hj) Try.underlying50 rfl ld_size; (focus rfl); go_simp)); go_simp)
  (refine h_read 2 rfl (by kernel_rfl) (by kernel_rfl) (h_free rfl) ?_ ?_ ?_; rotate_left; (focus (intro v hv; go_simp; rfl)); go_simp)
  (refine h_read 3 rfl (by kernel_rfl) (by kernel_rfl) (h_free rfl) ?_ ?_ ?_; rotate_left; (focus (intro v hv; go_simp; rfl)); go_simp)
  (refine h_read 4 rfl (by kernel_rfl) (by kernel_rfl) (h_free rfl) ?_ ?_ ?_; rotate_left; (focus (intro v hv; go_simp; rfl)); go_simp)
  (refine h_read 5 rfl (by kernel_rfl) (by kernel_rfl) (h_free rfl) ?_ ?_ ?_; rotate_left; (focus (intro v hv; go_simp; rfl)); go_simp)
  (refine h_read 6 rfl (by kernel_rfl) (by kernel_rfl) ?_ ?_ ?_ ?_; (focus (go_simp; done)); rotate_left; (focus (intro v hv; go_simp; rfl)); go_simp)
  (refine h_read 7 rfl (by kernel_rfl) (by kernel_rfl) ?_ ?_ ?_ ?_; (focus (go_simp; done)); rotate_left; (focus (intro v hv; go_simp; rfl)); go_simp)
  (refine h_read 8 rfl (by kernel_rfl) (by kernel_rfl) ?_ ?_ ?_ ?_; (focus (go_simp; done)); rotate_left; (focus (intro v hv; go_simp; rfl)); go_simp)
  (refine h_read 9 rfl (by kernel_rfl) (by kernel_rfl) (h_free rfl) ?_ ?_ ?_; rotate_left; (focus (intro v hv; go_simp; rfl)); go_simp)
  (refine h_read 10 rfl (by kernel_rfl) (by kernel_rfl) (h_free rfl) ?_ ?_ ?_; rotate_left; (focus (intro v hv; go_simp; rfl)); go_simp)
  (refine h_read 11 rfl (by kernel_rfl) (by kernel_rfl) ?_ ?_ ?_ ?_; (focus (go_simp; done)); rotate_left; (focus (intro v hv; refine run_cells 50 (.tmp 9) ?_ w5.heap.size 0 ?_ (ldC m1.q m1.u m1.h m1.n a8 n8 c8) _ (fun j' u' hj => by rw [Nat.zero_add, hv.1.cellV]; exact hj) Try.underlying50 rfl ld_size; (focus rfl); go_simp)); go_simp)
  (refine h_read 12 rfl (by kernel_rfl) (by kernel_rfl) ?_ ?_ ?_ ?_; (focus (go_simp; done)); rotate_left; (focus (intro v hv; refine run_cells 50 (.tmp 10) ?_ w6.heap.size 0 ?_ (ldC m1.q m1.u m1.h m1.n a10 n10 c10) _ (fun j' u' hj => by rw [Nat.zero_add, hv.2.cellV]; exact hj) Try.underlying50 rfl ld_size; (focus rfl); go_simp)); go_simp)
  (refine h_call 13 rfl (by kernel_rfl) ?_ 56 ?_ ?_ ?_; (focus (go_simp; done)); rotate_left; (focus (go_simp; rfl)))
  refine (ysame m1.q m1.u m1.h m1.n a8 n8 c8 m1.L m1.q m1.u m1.h m1.n a10 n10 c10 m1.L wd (K11.out.mono hdOk D0.out) (L11.out.mono hdOk D0.out) true (by simp)).mono ?_
  rintro e w12 ⟨rfl, hb⟩
  have D12 := Lib.hid (D0.out.trans (hb.mono D0.out.size))
  have R912 := Lib.hid (R911.out.below D12.out R911.out.lt)
  have RX12 := Lib.hid (RX11.out.below D12.out RX11.out.lt)
  have R612 := Lib.hid (R611.out.below D12.out R611.out.lt)
  have R712 := Lib.hid (R711.out.below D12.out R711.out.lt)
  have K12 := Lib.hid (K11.out.mono hdOk D12.out)
  have L12 := Lib.hid (L11.out.mono hdOk D12.out)
  have B12 := Lib.hid (B11.out.trans (D12.out.mono B11.out.size))
  clear hb
  refine ⟨_, rfl, ⟨R912.out, RX12.out⟩, ?_⟩
  go_simp
  (refine h_read 14 rfl (by kernel_rfl) (by kernel_rfl) (h_free rfl) ?_ ?_ ?_; rotate_left; (focus (intro v hv; go_simp; rfl)); go_simp)
  (refine h_list 15 rfl (by kernel_rfl) ?_; intro K hK)
  refine store_row rfl _ _ _ rfl w3.heap.size (ldC m1.q m1.u m1.h m1.n a8 n8 c8) (by go_simp) (by go_simp) 50 _ R612.out LZS.out rfl (ld_one _ _ _ _ _ _ _) ?_
  intro w13 hr hu
  have R613 := Lib.hid hr
  have R913 := Lib.hid (R912.out.upd hu (Nat.ne_of_gt (Nat.lt_trans S4.out S5.out)))
  have RX13 := Lib.hid (RX12.out.upd hu (Nat.ne_of_gt (Nat.lt_trans S4.out (Nat.lt_trans S5.out S6.out))))
  have R713 := Lib.hid (R712.out.upd hu (Nat.ne_of_gt S4.out))
  have K13 := Lib.hid (K12.out.upd5 R612.out (show 5 ≤ 5 from Nat.le_refl 5) hu)
  have L13 := Lib.hid (L12.out.upd5 R612.out (show 5 ≤ 5 from Nat.le_refl 5) hu)
  have B13 := Lib.hid (B12.out.trans (hu.below B3.out.size))
  clear hr hu
  refine hK _ _ ⟨R913.out, RX13.out⟩ ?_
  go_simp
  (refine h_list 16 rfl (by kernel_rfl) ?_; intro K hK)
  refine store_row rfl _ _ _ rfl w4.heap.size (ldC m1.q m1.u m1.h m1.n a10 n10 c10) (by go_simp) (by go_simp) 50 _ R713.out LZS.out rfl (ld_one _ _ _ _ _ _ _) ?_
  intro w14 hr hu
  have R714 := Lib.hid hr
  have R914 := Lib.hid (R913.out.upd hu (Nat.ne_of_gt S5.out))
  have RX14 := Lib.hid (RX13.out.upd hu (Nat.ne_of_gt (Nat.lt_trans S5.out S6.out)))
  have R614 := Lib.hid (R613.out.upd hu (Nat.ne_of_lt S4.out))
  have K14 := Lib.hid (K13.out.upd5 R713.out (show 5 ≤ 5 from Nat.le_refl 5) hu)
  have L14 := Lib.hid (L13.out.upd5 R713.out (show 5 ≤ 5 from Nat.le_refl 5) hu)
  have B14 := Lib.hid (B13.out.trans (hu.below B4.out.size))
  clear hr hu
  refine hK _ _ ⟨R914.out, RX14.out⟩ ?_
  go_simp
  (refine h_read 17 rfl (by kernel_rfl) (by kernel_rfl) (h_free rfl) ?_ ?_ ?_; rotate_left; (focus (intro v hv; go_simp; rfl)); go_simp)
  refine h_done (by kernel_rfl) ?_
  go_wp2_with fail
  exact bodyPost_ret (results_cc_tmp rfl _ _ w3.heap.size w4.heap.size 50 50 _ _ _ _ _ (by go_simp) (by go_simp) R614.out R714.out Try.underlying50 rfl LZS.out LZS.out) rfl ⟨_, _, rfl, ⟨_, _, _, rfl, K14.out⟩, ⟨_, _, _, rfl, L14.out⟩, B14.out⟩
set_option maxRecDepth 100000 in
set_option maxHeartbeats 16000000 in
theorem do19_free (hP : LdP) (a a2 : Option Addr) (n c n2 c2 : Nat) (l : Ld) (id nn i1 i2 i3 i4 i5 : Int) (sp : ByteArray) (w : World) (hv : Ls hdE w a n c l.L) (hx : Ls hdE w a2 n2 c2 l.L) (hok : OkL l) (hd : Hd.fit ⟨i1, i2, i3, i4, i5, sp⟩) :
    Calls Try.prog 45 #[.agg (ldC l.q l.u l.h l.n a n c).toArray, .agg (ldC l.q l.u l.h l.n a2 n2 c2).toArray, .agg [.int .i64 5, .int .i64 id, .int .i64 nn, .int .i64 i1, .int .i64 i2, .int .i64 i3, .int .i64 i4, .int .i64 i5, .string sp].toArray] w fun e w' => ∃ v' x', e = .returned (.tuple #[v', x', .bool true]) ∧ LdV w' v' (l.free nn).1 ∧ LdV w' x' (l.free nn).1 ∧ Below w.heap.size w w' := by
  have LZS := Lib.hid ld_size
  have LZ := Lib.hid ld_zero
  have HSZ := Lib.hid hd_size
  have HV : Hid (LdV w (.agg (ldC l.q l.u l.h l.n a n c).toArray) l) := Lib.hid ⟨a, n, c, rfl, hv⟩
  have HX : Hid (LdV w (.agg (ldC l.q l.u l.h l.n a2 n2 c2).toArray) l) := Lib.hid ⟨a2, n2, c2, rfl, hx⟩
  have HP := Lib.hid (fun w' h => hP.free (.agg (ldC l.q l.u l.h l.n a n c).toArray) l nn w' h hok)
  have HY := Lib.hid (fun w' h => yfree (.agg (ldC l.q l.u l.h l.n a2 n2 c2).toArray) l nn w' h hok)
  obtain ⟨m1, m2, hm⟩ : ∃ x y, l.free nn = (x, y) := ⟨_, _, rfl⟩
  have HM := Lib.hid hm
  rw [hm]
  clear hP hv hx hok hd hm
  go_enter Try.func45, Try.ntmps45
  go_wp2_with (first
    | ((with_reducible refine box_row (o := ⟨some 3, _, _, _, _, _⟩) rfl _ _ rfl (ldC l.q l.u l.h l.n a n c) rfl ?_); intro w1 hr hb hz; have RA1 := Lib.hid hr; have B1 := Lib.hid hb; have S1 := Lib.hid (show w.heap.size < w1.heap.size by omega); clear hr hb hz)
    | ((with_reducible refine box_row (o := ⟨some 4, _, _, _, _, _⟩) rfl _ _ rfl (ldC l.q l.u l.h l.n a2 n2 c2) rfl ?_); intro w2 hr hb hz; have RB2 := Lib.hid hr; have RA2 := Lib.hid (RA1.out.below hb RA1.out.lt); have B2 := Lib.hid (B1.out.trans (hb.mono B1.out.size)); have S2 := Lib.hid (show w1.heap.size < w2.heap.size by omega); clear hr hb hz)
    | ((with_reducible refine box_row (o := ⟨some 5, _, _, _, _, _⟩) rfl _ _ rfl [.int .i64 5, .int .i64 id, .int .i64 nn, .int .i64 i1, .int .i64 i2, .int .i64 i3, .int .i64 i4, .int .i64 i5, .string sp] rfl ?_); intro w3 hr hb hz; have RD3 := Lib.hid hr; have RA3 := Lib.hid (RA2.out.below hb RA2.out.lt); have RB3 := Lib.hid (RB2.out.below hb RB2.out.lt); have B3 := Lib.hid (B2.out.trans (hb.mono B2.out.size)); have S3 := Lib.hid (show w2.heap.size < w3.heap.size by omega); clear hr hb hz)
    | ((with_reducible refine alloc_row (o := ⟨some 6, _, _, _, _, _⟩) rfl _ rfl _ LZ.out ?_); intro w4 hr hb hz; have R64 := Lib.hid hr; have RA4 := Lib.hid (RA3.out.below hb RA3.out.lt); have RB4 := Lib.hid (RB3.out.below hb RB3.out.lt); have RD4 := Lib.hid (RD3.out.below hb RD3.out.lt); have B4 := Lib.hid (B3.out.trans (hb.mono B3.out.size)); have S4 := Lib.hid (show w3.heap.size < w4.heap.size by omega); clear hr hb hz)
    | ((with_reducible refine alloc_row (o := ⟨some 7, _, _, _, _, _⟩) rfl _ rfl _ LZ.out ?_); intro w5 hr hb hz; have R75 := Lib.hid hr; have RA5 := Lib.hid (RA4.out.below hb RA4.out.lt); have RB5 := Lib.hid (RB4.out.below hb RB4.out.lt); have RD5 := Lib.hid (RD4.out.below hb RD4.out.lt); have R65 := Lib.hid (R64.out.below hb R64.out.lt); have B5 := Lib.hid (B4.out.trans (hb.mono B4.out.size)); have S5 := Lib.hid (show w4.heap.size < w5.heap.size by omega); clear hr hb hz)
    | ((with_reducible refine alloc_row (o := ⟨some 9, _, _, _, _, _⟩) rfl _ rfl _ LZ.out ?_); intro w6 hr hb hz; have R96 := Lib.hid hr; have RA6 := Lib.hid (RA5.out.below hb RA5.out.lt); have RB6 := Lib.hid (RB5.out.below hb RB5.out.lt); have RD6 := Lib.hid (RD5.out.below hb RD5.out.lt); have R66 := Lib.hid (R65.out.below hb R65.out.lt); have R76 := Lib.hid (R75.out.below hb R75.out.lt); have B6 := Lib.hid (B5.out.trans (hb.mono B5.out.size)); have S6 := Lib.hid (show w5.heap.size < w6.heap.size by omega); clear hr hb hz)
    | ((with_reducible refine alloc_row (o := ⟨some 10, _, _, _, _, _⟩) rfl _ rfl _ LZ.out ?_); intro w7 hr hb hz; have RX7 := Lib.hid hr; have RA7 := Lib.hid (RA6.out.below hb RA6.out.lt); have RB7 := Lib.hid (RB6.out.below hb RB6.out.lt); have RD7 := Lib.hid (RD6.out.below hb RD6.out.lt); have R67 := Lib.hid (R66.out.below hb R66.out.lt); have R77 := Lib.hid (R76.out.below hb R76.out.lt); have R97 := Lib.hid (R96.out.below hb R96.out.lt); have B7 := Lib.hid (B6.out.trans (hb.mono B6.out.size)); have S7 := Lib.hid (show w6.heap.size < w7.heap.size by omega); obtain ⟨d0, d1, d2, d3, d4, d5, d6, d7, d8⟩ := RD7.out.d9; clear hr hb hz)
    | ((with_reducible refine load_row (o := ⟨some 90, _, _, _, _, _⟩) rfl _ _ rfl w.heap.size ?_ _ (ldC l.q l.u l.h l.n a n c) _ RA7.out Try.underlying50 rfl ?_ ?_); (focus go_simp); (focus (exact LZS.out)))
    | (go_at_call 100; (with_reducible refine (HP.out w7 (HV.out.mono B7.out)).mono ?_); rw [HM.out]; rintro e w8 ⟨v8, rfl, ⟨a8, n8, c8, rfl, hl⟩, hb⟩; have L8 := Lib.hid hl; have RA8 := Lib.hid (RA7.out.below hb RA7.out.lt); have RB8 := Lib.hid (RB7.out.below hb RB7.out.lt); have RD8 := Lib.hid (RD7.out.below hb RD7.out.lt); have R68 := Lib.hid (R67.out.below hb R67.out.lt); have R78 := Lib.hid (R77.out.below hb R77.out.lt); have R98 := Lib.hid (R97.out.below hb R97.out.lt); have RX8 := Lib.hid (RX7.out.below hb RX7.out.lt); have B8 := Lib.hid (B7.out.trans (hb.mono B7.out.size)); clear hl hb d0 d1 d2 d3 d4 d5 d6 d7 d8)
    | ((with_reducible refine store_row (o := ⟨none, _, _, _, _, _⟩) rfl _ (.tmp 9) _ rfl w5.heap.size (ldC m1.q m1.u m1.h m1.n a8 n8 c8) ?_ ?_ 50 _ R98.out ?_ ?_ ?_ ?_); (focus go_simp); (focus (first | (go_simp; done) | (go_simp; rfl))); (focus (exact LZS.out)); (focus rfl); (focus (exact ld_one _ _ _ _ _ _ _)); intro w9 hr hu; have R99 := Lib.hid hr; have RA9 := Lib.hid (RA8.out.upd hu (Nat.ne_of_lt ((Nat.lt_of_lt_of_le RA1.out.lt (Nat.le_trans (Nat.le_of_lt S2.out) (Nat.le_trans (Nat.le_of_lt S3.out) (Nat.le_trans (Nat.le_of_lt S4.out) (Nat.le_of_lt S5.out)))))))); have RB9 := Lib.hid (RB8.out.upd hu (Nat.ne_of_lt (Nat.lt_trans S2.out (Nat.lt_trans S3.out (Nat.lt_trans S4.out S5.out))))); have RD9 := Lib.hid (RD8.out.upd hu (Nat.ne_of_lt (Nat.lt_trans S3.out (Nat.lt_trans S4.out S5.out)))); have R69 := Lib.hid (R68.out.upd hu (Nat.ne_of_lt (Nat.lt_trans S4.out S5.out))); have R79 := Lib.hid (R78.out.upd hu (Nat.ne_of_lt S5.out)); have RX9 := Lib.hid (RX8.out.upd hu (Nat.ne_of_gt S6.out)); have L9 := Lib.hid (L8.out.upd5 R98.out (show 5 ≤ 5 from Nat.le_refl 5) hu); have B9 := Lib.hid (B8.out.trans (hu.below B5.out.size)); obtain ⟨d0, d1, d2, d3, d4, d5, d6, d7, d8⟩ := RD9.out.d9; clear hr hu)
    | ((with_reducible refine load_row (o := ⟨some 97, _, _, _, _, _⟩) rfl _ _ rfl w1.heap.size ?_ _ (ldC l.q l.u l.h l.n a2 n2 c2) _ RB9.out Try.underlying50 rfl ?_ ?_); (focus go_simp); (focus (exact LZS.out)))
    | (go_at_call 101; (with_reducible refine (HY.out w9 (HX.out.mono B9.out)).mono ?_); rw [HM.out]; rintro e w10 ⟨v10, rfl, ⟨a10, n10, c10, rfl, hl⟩, hb⟩; have L10 := Lib.hid hl; have K10 := Lib.hid (L9.out.mono hdOk hb); have R910 := Lib.hid (R99.out.below hb R99.out.lt); have R610 := Lib.hid (R69.out.below hb R69.out.lt); have R710 := Lib.hid (R79.out.below hb R79.out.lt); have RX10 := Lib.hid (RX9.out.below hb RX9.out.lt); have B10 := Lib.hid (B9.out.trans (hb.mono B9.out.size)); clear hl hb d0 d1 d2 d3 d4 d5 d6 d7 d8)
    | ((with_reducible refine store_row (o := ⟨none, _, _, _, _, _⟩) rfl _ (.tmp 10) _ rfl w6.heap.size (ldC m1.q m1.u m1.h m1.n a10 n10 c10) ?_ ?_ 50 _ RX10.out ?_ ?_ ?_ ?_); (focus go_simp); (focus (first | (go_simp; done) | (go_simp; rfl))); (focus (exact LZS.out)); (focus rfl); (focus (exact ld_one _ _ _ _ _ _ _)); intro w11 hr hu; have RX11 := Lib.hid hr; have R911 := Lib.hid (R910.out.upd hu (Nat.ne_of_lt S6.out)); have R611 := Lib.hid (R610.out.upd hu (Nat.ne_of_lt (Nat.lt_trans S4.out (Nat.lt_trans S5.out S6.out)))); have R711 := Lib.hid (R710.out.upd hu (Nat.ne_of_lt (Nat.lt_trans S5.out S6.out))); have L11 := Lib.hid (L10.out.upd5 RX10.out (show 5 ≤ 5 from Nat.le_refl 5) hu); have K11 := Lib.hid (K10.out.upd5 RX10.out (show 5 ≤ 5 from Nat.le_refl 5) hu); have B11 := Lib.hid (B10.out.trans (hu.below B6.out.size)); clear hr hu))
  refine region_h (fun v => Row v w5.heap.size 50 (ldC m1.q m1.u m1.h m1.n a8 n8 c8) ∧ Row v w6.heap.size 50 (ldC m1.q m1.u m1.h m1.n a10 n10 c10)) (by kernel_rfl) (by kernel_rfl) (And.intro (R911.out.drewN 1) (RX11.out.drewN 1)) ?_
  obtain ⟨wd, hwd⟩ : ∃ wd, w11.drew = wd := ⟨_, rfl⟩
  have D0 : Hid (Below w11.heap.size w11 wd) := Lib.hid (by rw [← hwd]; exact (Below.refl _ _).drew)
  rw [hwd]
  clear hwd
  (refine h_read 0 rfl (by kernel_rfl) (by kernel_rfl) (h_free rfl) ?_ ?_ ?_; rotate_left; (focus (intro v hv; refine run_cells 50 (.tmp 9) ?_ w5.heap.size 0 ?_ (ldC m1.q m1.u m1.h m1.n a8 n8 c8) _ (fun j' u' hj => by rw [Nat.zero_add, hv.1.cellV]; exact hj) Try.underlying50 rfl ld_size; (focus rfl); go_simp)); go_simp)
  (refine h_read 1 rfl (by kernel_rfl) (by kernel_rfl) (h_free rfl) ?_ ?_ ?_; rotate_left; (focus (intro v hv; refine run_cells 50 (.tmp 10) ?_ w6.heap.size 0 ?_ (ldC m1.q m1.u m1.h m1.n a10 n10 c10) _ (fun j' u' hj => by rw [Nat.zero_add, hv.2.cellV]; exact hj) Try.underlying50 rfl ld_size; (focus rfl); go_simp)); go_simp)
  (refine h_read 2 rfl (by kernel_rfl) (by kernel_rfl) (h_free rfl) ?_ ?_ ?_; rotate_left; (focus (intro v hv; go_simp; rfl)); go_simp)
  (refine h_read 3 rfl (by kernel_rfl) (by kernel_rfl) (h_free rfl) ?_ ?_ ?_; rotate_left; (focus (intro v hv; go_simp; rfl)); go_simp)
  (refine h_read 4 rfl (by kernel_rfl) (by kernel_rfl) (h_free rfl) ?_ ?_ ?_; rotate_left; (focus (intro v hv; go_simp; rfl)); go_simp)
  (refine h_read 5 rfl (by kernel_rfl) (by kernel_rfl) (h_free rfl) ?_ ?_ ?_; rotate_left; (focus (intro v hv; go_simp; rfl)); go_simp)
  (refine h_read 6 rfl (by kernel_rfl) (by kernel_rfl) ?_ ?_ ?_ ?_; (focus (go_simp; done)); rotate_left; (focus (intro v hv; go_simp; rfl)); go_simp)
  (refine h_read 7 rfl (by kernel_rfl) (by kernel_rfl) ?_ ?_ ?_ ?_; (focus (go_simp; done)); rotate_left; (focus (intro v hv; go_simp; rfl)); go_simp)
  (refine h_read 8 rfl (by kernel_rfl) (by kernel_rfl) ?_ ?_ ?_ ?_; (focus (go_simp; done)); rotate_left; (focus (intro v hv; go_simp; rfl)); go_simp)
  (refine h_read 9 rfl (by kernel_rfl) (by kernel_rfl) (h_free rfl) ?_ ?_ ?_; rotate_left; (focus (intro v hv; go_simp; rfl)); go_simp)
  (refine h_read 10 rfl (by kernel_rfl) (by kernel_rfl) (h_free rfl) ?_ ?_ ?_; rotate_left; (focus (intro v hv; go_simp; rfl)); go_simp)
  (refine h_read 11 rfl (by kernel_rfl) (by kernel_rfl) ?_ ?_ ?_ ?_; (focus (go_simp; done)); rotate_left; (focus (intro v hv; refine run_cells 50 (.tmp 9) ?_ w5.heap.size 0 ?_ (ldC m1.q m1.u m1.h m1.n a8 n8 c8) _ (fun j' u' hj => by rw [Nat.zero_add, hv.1.cellV]; exact hj) Try.underlying50 rfl ld_size; (focus rfl); go_simp)); go_simp)
  (refine h_read 12 rfl (by kernel_rfl) (by kernel_rfl) ?_ ?_ ?_ ?_; (focus (go_simp; done)); rotate_left; (focus (intro v hv; refine run_cells 50 (.tmp 10) ?_ w6.heap.size 0 ?_ (ldC m1.q m1.u m1.h m1.n a10 n10 c10) _ (fun j' u' hj => by rw [Nat.zero_add, hv.2.cellV]; exact hj) Try.underlying50 rfl ld_size; (focus rfl); go_simp)); go_simp)
  (refine h_call 13 rfl (by kernel_rfl) ?_ 56 ?_ ?_ ?_; (focus (go_simp; done)); rotate_left; (focus (go_simp; rfl)))
  refine (ysame m1.q m1.u m1.h m1.n a8 n8 c8 m1.L m1.q m1.u m1.h m1.n a10 n10 c10 m1.L wd (K11.out.mono hdOk D0.out) (L11.out.mono hdOk D0.out) true (by simp)).mono ?_
  rintro e w12 ⟨rfl, hb⟩
  have D12 := Lib.hid (D0.out.trans (hb.mono D0.out.size))
  have R912 := Lib.hid (R911.out.below D12.out R911.out.lt)
  have RX12 := Lib.hid (RX11.out.below D12.out RX11.out.lt)
  have R612 := Lib.hid (R611.out.below D12.out R611.out.lt)
  have R712 := Lib.hid (R711.out.below D12.out R711.out.lt)
  have K12 := Lib.hid (K11.out.mono hdOk D12.out)
  have L12 := Lib.hid (L11.out.mono hdOk D12.out)
  have B12 := Lib.hid (B11.out.trans (D12.out.mono B11.out.size))
  clear hb
  refine ⟨_, rfl, ⟨R912.out, RX12.out⟩, ?_⟩
  go_simp
  (refine h_read 14 rfl (by kernel_rfl) (by kernel_rfl) (h_free rfl) ?_ ?_ ?_; rotate_left; (focus (intro v hv; go_simp; rfl)); go_simp)
  (refine h_list 15 rfl (by kernel_rfl) ?_; intro K hK)
  refine store_row rfl _ _ _ rfl w3.heap.size (ldC m1.q m1.u m1.h m1.n a8 n8 c8) (by go_simp) (by go_simp) 50 _ R612.out LZS.out rfl (ld_one _ _ _ _ _ _ _) ?_
  intro w13 hr hu
  have R613 := Lib.hid hr
  have R913 := Lib.hid (R912.out.upd hu (Nat.ne_of_gt (Nat.lt_trans S4.out S5.out)))
  have RX13 := Lib.hid (RX12.out.upd hu (Nat.ne_of_gt (Nat.lt_trans S4.out (Nat.lt_trans S5.out S6.out))))
  have R713 := Lib.hid (R712.out.upd hu (Nat.ne_of_gt S4.out))
  have K13 := Lib.hid (K12.out.upd5 R612.out (show 5 ≤ 5 from Nat.le_refl 5) hu)
  have L13 := Lib.hid (L12.out.upd5 R612.out (show 5 ≤ 5 from Nat.le_refl 5) hu)
  have B13 := Lib.hid (B12.out.trans (hu.below B3.out.size))
  clear hr hu
  refine hK _ _ ⟨R913.out, RX13.out⟩ ?_
  go_simp
  (refine h_list 16 rfl (by kernel_rfl) ?_; intro K hK)
  refine store_row rfl _ _ _ rfl w4.heap.size (ldC m1.q m1.u m1.h m1.n a10 n10 c10) (by go_simp) (by go_simp) 50 _ R713.out LZS.out rfl (ld_one _ _ _ _ _ _ _) ?_
  intro w14 hr hu
  have R714 := Lib.hid hr
  have R914 := Lib.hid (R913.out.upd hu (Nat.ne_of_gt S5.out))
  have RX14 := Lib.hid (RX13.out.upd hu (Nat.ne_of_gt (Nat.lt_trans S5.out S6.out)))
  have R614 := Lib.hid (R613.out.upd hu (Nat.ne_of_lt S4.out))
  have K14 := Lib.hid (K13.out.upd5 R713.out (show 5 ≤ 5 from Nat.le_refl 5) hu)
  have L14 := Lib.hid (L13.out.upd5 R713.out (show 5 ≤ 5 from Nat.le_refl 5) hu)
  have B14 := Lib.hid (B13.out.trans (hu.below B4.out.size))
  clear hr hu
  refine hK _ _ ⟨R914.out, RX14.out⟩ ?_
  go_simp
  (refine h_read 17 rfl (by kernel_rfl) (by kernel_rfl) (h_free rfl) ?_ ?_ ?_; rotate_left; (focus (intro v hv; go_simp; rfl)); go_simp)
  refine h_done (by kernel_rfl) ?_
  go_wp2_with fail
  exact bodyPost_ret (results_cc_tmp rfl _ _ w3.heap.size w4.heap.size 50 50 _ _ _ _ _ (by go_simp) (by go_simp) R614.out R714.out Try.underlying50 rfl LZS.out LZS.out) rfl ⟨_, _, rfl, ⟨_, _, _, rfl, K14.out⟩, ⟨_, _, _, rfl, L14.out⟩, B14.out⟩
set_option maxRecDepth 100000 in
set_option maxHeartbeats 16000000 in
theorem do19_quota (hP : LdP) (a a2 : Option Addr) (n c n2 c2 : Nat) (l : Ld) (id nn i1 i2 i3 i4 i5 : Int) (sp : ByteArray) (w : World) (hv : Ls hdE w a n c l.L) (hx : Ls hdE w a2 n2 c2 l.L) (hok : OkL l) (hd : Hd.fit ⟨i1, i2, i3, i4, i5, sp⟩) :
    Calls Try.prog 45 #[.agg (ldC l.q l.u l.h l.n a n c).toArray, .agg (ldC l.q l.u l.h l.n a2 n2 c2).toArray, .agg [.int .i64 6, .int .i64 id, .int .i64 nn, .int .i64 i1, .int .i64 i2, .int .i64 i3, .int .i64 i4, .int .i64 i5, .string sp].toArray] w fun e w' => ∃ v' x', e = .returned (.tuple #[v', x', .bool true]) ∧ LdV w' v' (l.quota nn).1 ∧ LdV w' x' (l.quota nn).1 ∧ Below w.heap.size w w' := by
  have LZS := Lib.hid ld_size
  have LZ := Lib.hid ld_zero
  have HSZ := Lib.hid hd_size
  have HV : Hid (LdV w (.agg (ldC l.q l.u l.h l.n a n c).toArray) l) := Lib.hid ⟨a, n, c, rfl, hv⟩
  have HX : Hid (LdV w (.agg (ldC l.q l.u l.h l.n a2 n2 c2).toArray) l) := Lib.hid ⟨a2, n2, c2, rfl, hx⟩
  have HP := Lib.hid (fun w' h => hP.quota (.agg (ldC l.q l.u l.h l.n a n c).toArray) l nn w' h hok)
  have HY := Lib.hid (fun w' h => yquota (.agg (ldC l.q l.u l.h l.n a2 n2 c2).toArray) l nn w' h hok)
  obtain ⟨m1, m2, hm⟩ : ∃ x y, l.quota nn = (x, y) := ⟨_, _, rfl⟩
  have HM := Lib.hid hm
  rw [hm]
  clear hP hv hx hok hd hm
  go_enter Try.func45, Try.ntmps45
  go_wp2_with (first
    | ((with_reducible refine box_row (o := ⟨some 3, _, _, _, _, _⟩) rfl _ _ rfl (ldC l.q l.u l.h l.n a n c) rfl ?_); intro w1 hr hb hz; have RA1 := Lib.hid hr; have B1 := Lib.hid hb; have S1 := Lib.hid (show w.heap.size < w1.heap.size by omega); clear hr hb hz)
    | ((with_reducible refine box_row (o := ⟨some 4, _, _, _, _, _⟩) rfl _ _ rfl (ldC l.q l.u l.h l.n a2 n2 c2) rfl ?_); intro w2 hr hb hz; have RB2 := Lib.hid hr; have RA2 := Lib.hid (RA1.out.below hb RA1.out.lt); have B2 := Lib.hid (B1.out.trans (hb.mono B1.out.size)); have S2 := Lib.hid (show w1.heap.size < w2.heap.size by omega); clear hr hb hz)
    | ((with_reducible refine box_row (o := ⟨some 5, _, _, _, _, _⟩) rfl _ _ rfl [.int .i64 6, .int .i64 id, .int .i64 nn, .int .i64 i1, .int .i64 i2, .int .i64 i3, .int .i64 i4, .int .i64 i5, .string sp] rfl ?_); intro w3 hr hb hz; have RD3 := Lib.hid hr; have RA3 := Lib.hid (RA2.out.below hb RA2.out.lt); have RB3 := Lib.hid (RB2.out.below hb RB2.out.lt); have B3 := Lib.hid (B2.out.trans (hb.mono B2.out.size)); have S3 := Lib.hid (show w2.heap.size < w3.heap.size by omega); clear hr hb hz)
    | ((with_reducible refine alloc_row (o := ⟨some 6, _, _, _, _, _⟩) rfl _ rfl _ LZ.out ?_); intro w4 hr hb hz; have R64 := Lib.hid hr; have RA4 := Lib.hid (RA3.out.below hb RA3.out.lt); have RB4 := Lib.hid (RB3.out.below hb RB3.out.lt); have RD4 := Lib.hid (RD3.out.below hb RD3.out.lt); have B4 := Lib.hid (B3.out.trans (hb.mono B3.out.size)); have S4 := Lib.hid (show w3.heap.size < w4.heap.size by omega); clear hr hb hz)
    | ((with_reducible refine alloc_row (o := ⟨some 7, _, _, _, _, _⟩) rfl _ rfl _ LZ.out ?_); intro w5 hr hb hz; have R75 := Lib.hid hr; have RA5 := Lib.hid (RA4.out.below hb RA4.out.lt); have RB5 := Lib.hid (RB4.out.below hb RB4.out.lt); have RD5 := Lib.hid (RD4.out.below hb RD4.out.lt); have R65 := Lib.hid (R64.out.below hb R64.out.lt); have B5 := Lib.hid (B4.out.trans (hb.mono B4.out.size)); have S5 := Lib.hid (show w4.heap.size < w5.heap.size by omega); clear hr hb hz)
    | ((with_reducible refine alloc_row (o := ⟨some 9, _, _, _, _, _⟩) rfl _ rfl _ LZ.out ?_); intro w6 hr hb hz; have R96 := Lib.hid hr; have RA6 := Lib.hid (RA5.out.below hb RA5.out.lt); have RB6 := Lib.hid (RB5.out.below hb RB5.out.lt); have RD6 := Lib.hid (RD5.out.below hb RD5.out.lt); have R66 := Lib.hid (R65.out.below hb R65.out.lt); have R76 := Lib.hid (R75.out.below hb R75.out.lt); have B6 := Lib.hid (B5.out.trans (hb.mono B5.out.size)); have S6 := Lib.hid (show w5.heap.size < w6.heap.size by omega); clear hr hb hz)
    | ((with_reducible refine alloc_row (o := ⟨some 10, _, _, _, _, _⟩) rfl _ rfl _ LZ.out ?_); intro w7 hr hb hz; have RX7 := Lib.hid hr; have RA7 := Lib.hid (RA6.out.below hb RA6.out.lt); have RB7 := Lib.hid (RB6.out.below hb RB6.out.lt); have RD7 := Lib.hid (RD6.out.below hb RD6.out.lt); have R67 := Lib.hid (R66.out.below hb R66.out.lt); have R77 := Lib.hid (R76.out.below hb R76.out.lt); have R97 := Lib.hid (R96.out.below hb R96.out.lt); have B7 := Lib.hid (B6.out.trans (hb.mono B6.out.size)); have S7 := Lib.hid (show w6.heap.size < w7.heap.size by omega); obtain ⟨d0, d1, d2, d3, d4, d5, d6, d7, d8⟩ := RD7.out.d9; clear hr hb hz)
    | ((with_reducible refine load_row (o := ⟨some 106, _, _, _, _, _⟩) rfl _ _ rfl w.heap.size ?_ _ (ldC l.q l.u l.h l.n a n c) _ RA7.out Try.underlying50 rfl ?_ ?_); (focus go_simp); (focus (exact LZS.out)))
    | (go_at_call 102; (with_reducible refine (HP.out w7 (HV.out.mono B7.out)).mono ?_); rw [HM.out]; rintro e w8 ⟨v8, rfl, ⟨a8, n8, c8, rfl, hl⟩, hb⟩; have L8 := Lib.hid hl; have RA8 := Lib.hid (RA7.out.below hb RA7.out.lt); have RB8 := Lib.hid (RB7.out.below hb RB7.out.lt); have RD8 := Lib.hid (RD7.out.below hb RD7.out.lt); have R68 := Lib.hid (R67.out.below hb R67.out.lt); have R78 := Lib.hid (R77.out.below hb R77.out.lt); have R98 := Lib.hid (R97.out.below hb R97.out.lt); have RX8 := Lib.hid (RX7.out.below hb RX7.out.lt); have B8 := Lib.hid (B7.out.trans (hb.mono B7.out.size)); clear hl hb d0 d1 d2 d3 d4 d5 d6 d7 d8)
    | ((with_reducible refine store_row (o := ⟨none, _, _, _, _, _⟩) rfl _ (.tmp 9) _ rfl w5.heap.size (ldC m1.q m1.u m1.h m1.n a8 n8 c8) ?_ ?_ 50 _ R98.out ?_ ?_ ?_ ?_); (focus go_simp); (focus (first | (go_simp; done) | (go_simp; rfl))); (focus (exact LZS.out)); (focus rfl); (focus (exact ld_one _ _ _ _ _ _ _)); intro w9 hr hu; have R99 := Lib.hid hr; have RA9 := Lib.hid (RA8.out.upd hu (Nat.ne_of_lt ((Nat.lt_of_lt_of_le RA1.out.lt (Nat.le_trans (Nat.le_of_lt S2.out) (Nat.le_trans (Nat.le_of_lt S3.out) (Nat.le_trans (Nat.le_of_lt S4.out) (Nat.le_of_lt S5.out)))))))); have RB9 := Lib.hid (RB8.out.upd hu (Nat.ne_of_lt (Nat.lt_trans S2.out (Nat.lt_trans S3.out (Nat.lt_trans S4.out S5.out))))); have RD9 := Lib.hid (RD8.out.upd hu (Nat.ne_of_lt (Nat.lt_trans S3.out (Nat.lt_trans S4.out S5.out)))); have R69 := Lib.hid (R68.out.upd hu (Nat.ne_of_lt (Nat.lt_trans S4.out S5.out))); have R79 := Lib.hid (R78.out.upd hu (Nat.ne_of_lt S5.out)); have RX9 := Lib.hid (RX8.out.upd hu (Nat.ne_of_gt S6.out)); have L9 := Lib.hid (L8.out.upd5 R98.out (show 5 ≤ 5 from Nat.le_refl 5) hu); have B9 := Lib.hid (B8.out.trans (hu.below B5.out.size)); obtain ⟨d0, d1, d2, d3, d4, d5, d6, d7, d8⟩ := RD9.out.d9; clear hr hu)
    | ((with_reducible refine load_row (o := ⟨some 113, _, _, _, _, _⟩) rfl _ _ rfl w1.heap.size ?_ _ (ldC l.q l.u l.h l.n a2 n2 c2) _ RB9.out Try.underlying50 rfl ?_ ?_); (focus go_simp); (focus (exact LZS.out)))
    | (go_at_call 103; (with_reducible refine (HY.out w9 (HX.out.mono B9.out)).mono ?_); rw [HM.out]; rintro e w10 ⟨v10, rfl, ⟨a10, n10, c10, rfl, hl⟩, hb⟩; have L10 := Lib.hid hl; have K10 := Lib.hid (L9.out.mono hdOk hb); have R910 := Lib.hid (R99.out.below hb R99.out.lt); have R610 := Lib.hid (R69.out.below hb R69.out.lt); have R710 := Lib.hid (R79.out.below hb R79.out.lt); have RX10 := Lib.hid (RX9.out.below hb RX9.out.lt); have B10 := Lib.hid (B9.out.trans (hb.mono B9.out.size)); clear hl hb d0 d1 d2 d3 d4 d5 d6 d7 d8)
    | ((with_reducible refine store_row (o := ⟨none, _, _, _, _, _⟩) rfl _ (.tmp 10) _ rfl w6.heap.size (ldC m1.q m1.u m1.h m1.n a10 n10 c10) ?_ ?_ 50 _ RX10.out ?_ ?_ ?_ ?_); (focus go_simp); (focus (first | (go_simp; done) | (go_simp; rfl))); (focus (exact LZS.out)); (focus rfl); (focus (exact ld_one _ _ _ _ _ _ _)); intro w11 hr hu; have RX11 := Lib.hid hr; have R911 := Lib.hid (R910.out.upd hu (Nat.ne_of_lt S6.out)); have R611 := Lib.hid (R610.out.upd hu (Nat.ne_of_lt (Nat.lt_trans S4.out (Nat.lt_trans S5.out S6.out)))); have R711 := Lib.hid (R710.out.upd hu (Nat.ne_of_lt (Nat.lt_trans S5.out S6.out))); have L11 := Lib.hid (L10.out.upd5 RX10.out (show 5 ≤ 5 from Nat.le_refl 5) hu); have K11 := Lib.hid (K10.out.upd5 RX10.out (show 5 ≤ 5 from Nat.le_refl 5) hu); have B11 := Lib.hid (B10.out.trans (hu.below B6.out.size)); clear hr hu))
  refine region_h (fun v => Row v w5.heap.size 50 (ldC m1.q m1.u m1.h m1.n a8 n8 c8) ∧ Row v w6.heap.size 50 (ldC m1.q m1.u m1.h m1.n a10 n10 c10)) (by kernel_rfl) (by kernel_rfl) (And.intro (R911.out.drewN 1) (RX11.out.drewN 1)) ?_
  obtain ⟨wd, hwd⟩ : ∃ wd, w11.drew = wd := ⟨_, rfl⟩
  have D0 : Hid (Below w11.heap.size w11 wd) := Lib.hid (by rw [← hwd]; exact (Below.refl _ _).drew)
  rw [hwd]
  clear hwd
  (refine h_read 0 rfl (by kernel_rfl) (by kernel_rfl) (h_free rfl) ?_ ?_ ?_; rotate_left; (focus (intro v hv; refine run_cells 50 (.tmp 9) ?_ w5.heap.size 0 ?_ (ldC m1.q m1.u m1.h m1.n a8 n8 c8) _ (fun j' u' hj => by rw [Nat.zero_add, hv.1.cellV]; exact hj) Try.underlying50 rfl ld_size; (focus rfl); go_simp)); go_simp)
  (refine h_read 1 rfl (by kernel_rfl) (by kernel_rfl) (h_free rfl) ?_ ?_ ?_; rotate_left; (focus (intro v hv; refine run_cells 50 (.tmp 10) ?_ w6.heap.size 0 ?_ (ldC m1.q m1.u m1.h m1.n a10 n10 c10) _ (fun j' u' hj => by rw [Nat.zero_add, hv.2.cellV]; exact hj) Try.underlying50 rfl ld_size; (focus rfl); go_simp)); go_simp)
  (refine h_read 2 rfl (by kernel_rfl) (by kernel_rfl) (h_free rfl) ?_ ?_ ?_; rotate_left; (focus (intro v hv; go_simp; rfl)); go_simp)
  (refine h_read 3 rfl (by kernel_rfl) (by kernel_rfl) (h_free rfl) ?_ ?_ ?_; rotate_left; (focus (intro v hv; go_simp; rfl)); go_simp)
  (refine h_read 4 rfl (by kernel_rfl) (by kernel_rfl) (h_free rfl) ?_ ?_ ?_; rotate_left; (focus (intro v hv; go_simp; rfl)); go_simp)
  (refine h_read 5 rfl (by kernel_rfl) (by kernel_rfl) (h_free rfl) ?_ ?_ ?_; rotate_left; (focus (intro v hv; go_simp; rfl)); go_simp)
  (refine h_read 6 rfl (by kernel_rfl) (by kernel_rfl) ?_ ?_ ?_ ?_; (focus (go_simp; done)); rotate_left; (focus (intro v hv; go_simp; rfl)); go_simp)
  (refine h_read 7 rfl (by kernel_rfl) (by kernel_rfl) ?_ ?_ ?_ ?_; (focus (go_simp; done)); rotate_left; (focus (intro v hv; go_simp; rfl)); go_simp)
  (refine h_read 8 rfl (by kernel_rfl) (by kernel_rfl) ?_ ?_ ?_ ?_; (focus (go_simp; done)); rotate_left; (focus (intro v hv; go_simp; rfl)); go_simp)
  (refine h_read 9 rfl (by kernel_rfl) (by kernel_rfl) (h_free rfl) ?_ ?_ ?_; rotate_left; (focus (intro v hv; go_simp; rfl)); go_simp)
  (refine h_read 10 rfl (by kernel_rfl) (by kernel_rfl) (h_free rfl) ?_ ?_ ?_; rotate_left; (focus (intro v hv; go_simp; rfl)); go_simp)
  (refine h_read 11 rfl (by kernel_rfl) (by kernel_rfl) ?_ ?_ ?_ ?_; (focus (go_simp; done)); rotate_left; (focus (intro v hv; refine run_cells 50 (.tmp 9) ?_ w5.heap.size 0 ?_ (ldC m1.q m1.u m1.h m1.n a8 n8 c8) _ (fun j' u' hj => by rw [Nat.zero_add, hv.1.cellV]; exact hj) Try.underlying50 rfl ld_size; (focus rfl); go_simp)); go_simp)
  (refine h_read 12 rfl (by kernel_rfl) (by kernel_rfl) ?_ ?_ ?_ ?_; (focus (go_simp; done)); rotate_left; (focus (intro v hv; refine run_cells 50 (.tmp 10) ?_ w6.heap.size 0 ?_ (ldC m1.q m1.u m1.h m1.n a10 n10 c10) _ (fun j' u' hj => by rw [Nat.zero_add, hv.2.cellV]; exact hj) Try.underlying50 rfl ld_size; (focus rfl); go_simp)); go_simp)
  (refine h_call 13 rfl (by kernel_rfl) ?_ 56 ?_ ?_ ?_; (focus (go_simp; done)); rotate_left; (focus (go_simp; rfl)))
  refine (ysame m1.q m1.u m1.h m1.n a8 n8 c8 m1.L m1.q m1.u m1.h m1.n a10 n10 c10 m1.L wd (K11.out.mono hdOk D0.out) (L11.out.mono hdOk D0.out) true (by simp)).mono ?_
  rintro e w12 ⟨rfl, hb⟩
  have D12 := Lib.hid (D0.out.trans (hb.mono D0.out.size))
  have R912 := Lib.hid (R911.out.below D12.out R911.out.lt)
  have RX12 := Lib.hid (RX11.out.below D12.out RX11.out.lt)
  have R612 := Lib.hid (R611.out.below D12.out R611.out.lt)
  have R712 := Lib.hid (R711.out.below D12.out R711.out.lt)
  have K12 := Lib.hid (K11.out.mono hdOk D12.out)
  have L12 := Lib.hid (L11.out.mono hdOk D12.out)
  have B12 := Lib.hid (B11.out.trans (D12.out.mono B11.out.size))
  clear hb
  refine ⟨_, rfl, ⟨R912.out, RX12.out⟩, ?_⟩
  go_simp
  (refine h_read 14 rfl (by kernel_rfl) (by kernel_rfl) (h_free rfl) ?_ ?_ ?_; rotate_left; (focus (intro v hv; go_simp; rfl)); go_simp)
  (refine h_list 15 rfl (by kernel_rfl) ?_; intro K hK)
  refine store_row rfl _ _ _ rfl w3.heap.size (ldC m1.q m1.u m1.h m1.n a8 n8 c8) (by go_simp) (by go_simp) 50 _ R612.out LZS.out rfl (ld_one _ _ _ _ _ _ _) ?_
  intro w13 hr hu
  have R613 := Lib.hid hr
  have R913 := Lib.hid (R912.out.upd hu (Nat.ne_of_gt (Nat.lt_trans S4.out S5.out)))
  have RX13 := Lib.hid (RX12.out.upd hu (Nat.ne_of_gt (Nat.lt_trans S4.out (Nat.lt_trans S5.out S6.out))))
  have R713 := Lib.hid (R712.out.upd hu (Nat.ne_of_gt S4.out))
  have K13 := Lib.hid (K12.out.upd5 R612.out (show 5 ≤ 5 from Nat.le_refl 5) hu)
  have L13 := Lib.hid (L12.out.upd5 R612.out (show 5 ≤ 5 from Nat.le_refl 5) hu)
  have B13 := Lib.hid (B12.out.trans (hu.below B3.out.size))
  clear hr hu
  refine hK _ _ ⟨R913.out, RX13.out⟩ ?_
  go_simp
  (refine h_list 16 rfl (by kernel_rfl) ?_; intro K hK)
  refine store_row rfl _ _ _ rfl w4.heap.size (ldC m1.q m1.u m1.h m1.n a10 n10 c10) (by go_simp) (by go_simp) 50 _ R713.out LZS.out rfl (ld_one _ _ _ _ _ _ _) ?_
  intro w14 hr hu
  have R714 := Lib.hid hr
  have R914 := Lib.hid (R913.out.upd hu (Nat.ne_of_gt S5.out))
  have RX14 := Lib.hid (RX13.out.upd hu (Nat.ne_of_gt (Nat.lt_trans S5.out S6.out)))
  have R614 := Lib.hid (R613.out.upd hu (Nat.ne_of_lt S4.out))
  have K14 := Lib.hid (K13.out.upd5 R713.out (show 5 ≤ 5 from Nat.le_refl 5) hu)
  have L14 := Lib.hid (L13.out.upd5 R713.out (show 5 ≤ 5 from Nat.le_refl 5) hu)
  have B14 := Lib.hid (B13.out.trans (hu.below B4.out.size))
  clear hr hu
  refine hK _ _ ⟨R914.out, RX14.out⟩ ?_
  go_simp
  (refine h_read 17 rfl (by kernel_rfl) (by kernel_rfl) (h_free rfl) ?_ ?_ ?_; rotate_left; (focus (intro v hv; go_simp; rfl)); go_simp)
  refine h_done (by kernel_rfl) ?_
  go_wp2_with fail
  exact bodyPost_ret (results_cc_tmp rfl _ _ w3.heap.size w4.heap.size 50 50 _ _ _ _ _ (by go_simp) (by go_simp) R614.out R714.out Try.underlying50 rfl LZS.out LZS.out) rfl ⟨_, _, rfl, ⟨_, _, _, rfl, K14.out⟩, ⟨_, _, _, rfl, L14.out⟩, B14.out⟩
set_option maxRecDepth 100000 in
set_option maxHeartbeats 16000000 in
theorem do19_expire (hP : LdP) (a a2 : Option Addr) (n c n2 c2 : Nat) (l : Ld) (op id nn i1 i2 i3 i4 i5 : Int) (sp : ByteArray) (w : World) (hv : Ls hdE w a n c l.L) (hx : Ls hdE w a2 n2 c2 l.L) (hok : OkL l) (hd : Hd.fit ⟨i1, i2, i3, i4, i5, sp⟩) (h0 : ¬ op = 0) (h1 : ¬ op = 1) (h2 : ¬ op = 2) (h3 : ¬ op = 3) (h4 : ¬ op = 4) (h5 : ¬ op = 5) (h6 : ¬ op = 6) :
    Calls Try.prog 45 #[.agg (ldC l.q l.u l.h l.n a n c).toArray, .agg (ldC l.q l.u l.h l.n a2 n2 c2).toArray, .agg [.int .i64 op, .int .i64 id, .int .i64 nn, .int .i64 i1, .int .i64 i2, .int .i64 i3, .int .i64 i4, .int .i64 i5, .string sp].toArray] w fun e w' => ∃ v' x', e = .returned (.tuple #[v', x', .bool true]) ∧ LdV w' v' (l.expire nn).1 ∧ LdV w' x' (l.expire nn).1 ∧ Below w.heap.size w w' := by
  have LZS := Lib.hid ld_size
  have LZ := Lib.hid ld_zero
  have HSZ := Lib.hid hd_size
  have HV : Hid (LdV w (.agg (ldC l.q l.u l.h l.n a n c).toArray) l) := Lib.hid ⟨a, n, c, rfl, hv⟩
  have HX : Hid (LdV w (.agg (ldC l.q l.u l.h l.n a2 n2 c2).toArray) l) := Lib.hid ⟨a2, n2, c2, rfl, hx⟩
  have HP := Lib.hid (fun w' h => hP.expire (.agg (ldC l.q l.u l.h l.n a n c).toArray) l nn w' h hok)
  have HY := Lib.hid (fun w' h => yexpire (.agg (ldC l.q l.u l.h l.n a2 n2 c2).toArray) l nn w' h hok)
  obtain ⟨m1, m2, hm⟩ : ∃ x y, l.expire nn = (x, y) := ⟨_, _, rfl⟩
  have HM := Lib.hid hm
  rw [hm]
  clear hP hv hx hok hd hm
  go_enter Try.func45, Try.ntmps45
  go_wp2_with (first
    | ((with_reducible refine box_row (o := ⟨some 3, _, _, _, _, _⟩) rfl _ _ rfl (ldC l.q l.u l.h l.n a n c) rfl ?_); intro w1 hr hb hz; have RA1 := Lib.hid hr; have B1 := Lib.hid hb; have S1 := Lib.hid (show w.heap.size < w1.heap.size by omega); clear hr hb hz)
    | ((with_reducible refine box_row (o := ⟨some 4, _, _, _, _, _⟩) rfl _ _ rfl (ldC l.q l.u l.h l.n a2 n2 c2) rfl ?_); intro w2 hr hb hz; have RB2 := Lib.hid hr; have RA2 := Lib.hid (RA1.out.below hb RA1.out.lt); have B2 := Lib.hid (B1.out.trans (hb.mono B1.out.size)); have S2 := Lib.hid (show w1.heap.size < w2.heap.size by omega); clear hr hb hz)
    | ((with_reducible refine box_row (o := ⟨some 5, _, _, _, _, _⟩) rfl _ _ rfl [.int .i64 op, .int .i64 id, .int .i64 nn, .int .i64 i1, .int .i64 i2, .int .i64 i3, .int .i64 i4, .int .i64 i5, .string sp] rfl ?_); intro w3 hr hb hz; have RD3 := Lib.hid hr; have RA3 := Lib.hid (RA2.out.below hb RA2.out.lt); have RB3 := Lib.hid (RB2.out.below hb RB2.out.lt); have B3 := Lib.hid (B2.out.trans (hb.mono B2.out.size)); have S3 := Lib.hid (show w2.heap.size < w3.heap.size by omega); clear hr hb hz)
    | ((with_reducible refine alloc_row (o := ⟨some 6, _, _, _, _, _⟩) rfl _ rfl _ LZ.out ?_); intro w4 hr hb hz; have R64 := Lib.hid hr; have RA4 := Lib.hid (RA3.out.below hb RA3.out.lt); have RB4 := Lib.hid (RB3.out.below hb RB3.out.lt); have RD4 := Lib.hid (RD3.out.below hb RD3.out.lt); have B4 := Lib.hid (B3.out.trans (hb.mono B3.out.size)); have S4 := Lib.hid (show w3.heap.size < w4.heap.size by omega); clear hr hb hz)
    | ((with_reducible refine alloc_row (o := ⟨some 7, _, _, _, _, _⟩) rfl _ rfl _ LZ.out ?_); intro w5 hr hb hz; have R75 := Lib.hid hr; have RA5 := Lib.hid (RA4.out.below hb RA4.out.lt); have RB5 := Lib.hid (RB4.out.below hb RB4.out.lt); have RD5 := Lib.hid (RD4.out.below hb RD4.out.lt); have R65 := Lib.hid (R64.out.below hb R64.out.lt); have B5 := Lib.hid (B4.out.trans (hb.mono B4.out.size)); have S5 := Lib.hid (show w4.heap.size < w5.heap.size by omega); clear hr hb hz)
    | ((with_reducible refine alloc_row (o := ⟨some 9, _, _, _, _, _⟩) rfl _ rfl _ LZ.out ?_); intro w6 hr hb hz; have R96 := Lib.hid hr; have RA6 := Lib.hid (RA5.out.below hb RA5.out.lt); have RB6 := Lib.hid (RB5.out.below hb RB5.out.lt); have RD6 := Lib.hid (RD5.out.below hb RD5.out.lt); have R66 := Lib.hid (R65.out.below hb R65.out.lt); have R76 := Lib.hid (R75.out.below hb R75.out.lt); have B6 := Lib.hid (B5.out.trans (hb.mono B5.out.size)); have S6 := Lib.hid (show w5.heap.size < w6.heap.size by omega); clear hr hb hz)
    | ((with_reducible refine alloc_row (o := ⟨some 10, _, _, _, _, _⟩) rfl _ rfl _ LZ.out ?_); intro w7 hr hb hz; have RX7 := Lib.hid hr; have RA7 := Lib.hid (RA6.out.below hb RA6.out.lt); have RB7 := Lib.hid (RB6.out.below hb RB6.out.lt); have RD7 := Lib.hid (RD6.out.below hb RD6.out.lt); have R67 := Lib.hid (R66.out.below hb R66.out.lt); have R77 := Lib.hid (R76.out.below hb R76.out.lt); have R97 := Lib.hid (R96.out.below hb R96.out.lt); have B7 := Lib.hid (B6.out.trans (hb.mono B6.out.size)); have S7 := Lib.hid (show w6.heap.size < w7.heap.size by omega); obtain ⟨d0, d1, d2, d3, d4, d5, d6, d7, d8⟩ := RD7.out.d9; clear hr hb hz)
    | ((with_reducible refine load_row (o := ⟨some 18, _, _, _, _, _⟩) rfl _ _ rfl w.heap.size ?_ _ (ldC l.q l.u l.h l.n a n c) _ RA7.out Try.underlying50 rfl ?_ ?_); (focus go_simp); (focus (exact LZS.out)))
    | (go_at_call 104; (with_reducible refine (HP.out w7 (HV.out.mono B7.out)).mono ?_); rw [HM.out]; rintro e w8 ⟨v8, rfl, ⟨a8, n8, c8, rfl, hl⟩, hb⟩; have L8 := Lib.hid hl; have RA8 := Lib.hid (RA7.out.below hb RA7.out.lt); have RB8 := Lib.hid (RB7.out.below hb RB7.out.lt); have RD8 := Lib.hid (RD7.out.below hb RD7.out.lt); have R68 := Lib.hid (R67.out.below hb R67.out.lt); have R78 := Lib.hid (R77.out.below hb R77.out.lt); have R98 := Lib.hid (R97.out.below hb R97.out.lt); have RX8 := Lib.hid (RX7.out.below hb RX7.out.lt); have B8 := Lib.hid (B7.out.trans (hb.mono B7.out.size)); clear hl hb d0 d1 d2 d3 d4 d5 d6 d7 d8)
    | ((with_reducible refine store_row (o := ⟨none, _, _, _, _, _⟩) rfl _ (.tmp 9) _ rfl w5.heap.size (ldC m1.q m1.u m1.h m1.n a8 n8 c8) ?_ ?_ 50 _ R98.out ?_ ?_ ?_ ?_); (focus go_simp); (focus (first | (go_simp; done) | (go_simp; rfl))); (focus (exact LZS.out)); (focus rfl); (focus (exact ld_one _ _ _ _ _ _ _)); intro w9 hr hu; have R99 := Lib.hid hr; have RA9 := Lib.hid (RA8.out.upd hu (Nat.ne_of_lt ((Nat.lt_of_lt_of_le RA1.out.lt (Nat.le_trans (Nat.le_of_lt S2.out) (Nat.le_trans (Nat.le_of_lt S3.out) (Nat.le_trans (Nat.le_of_lt S4.out) (Nat.le_of_lt S5.out)))))))); have RB9 := Lib.hid (RB8.out.upd hu (Nat.ne_of_lt (Nat.lt_trans S2.out (Nat.lt_trans S3.out (Nat.lt_trans S4.out S5.out))))); have RD9 := Lib.hid (RD8.out.upd hu (Nat.ne_of_lt (Nat.lt_trans S3.out (Nat.lt_trans S4.out S5.out)))); have R69 := Lib.hid (R68.out.upd hu (Nat.ne_of_lt (Nat.lt_trans S4.out S5.out))); have R79 := Lib.hid (R78.out.upd hu (Nat.ne_of_lt S5.out)); have RX9 := Lib.hid (RX8.out.upd hu (Nat.ne_of_gt S6.out)); have L9 := Lib.hid (L8.out.upd5 R98.out (show 5 ≤ 5 from Nat.le_refl 5) hu); have B9 := Lib.hid (B8.out.trans (hu.below B5.out.size)); obtain ⟨d0, d1, d2, d3, d4, d5, d6, d7, d8⟩ := RD9.out.d9; clear hr hu)
    | ((with_reducible refine load_row (o := ⟨some 25, _, _, _, _, _⟩) rfl _ _ rfl w1.heap.size ?_ _ (ldC l.q l.u l.h l.n a2 n2 c2) _ RB9.out Try.underlying50 rfl ?_ ?_); (focus go_simp); (focus (exact LZS.out)))
    | (go_at_call 105; (with_reducible refine (HY.out w9 (HX.out.mono B9.out)).mono ?_); rw [HM.out]; rintro e w10 ⟨v10, rfl, ⟨a10, n10, c10, rfl, hl⟩, hb⟩; have L10 := Lib.hid hl; have K10 := Lib.hid (L9.out.mono hdOk hb); have R910 := Lib.hid (R99.out.below hb R99.out.lt); have R610 := Lib.hid (R69.out.below hb R69.out.lt); have R710 := Lib.hid (R79.out.below hb R79.out.lt); have RX10 := Lib.hid (RX9.out.below hb RX9.out.lt); have B10 := Lib.hid (B9.out.trans (hb.mono B9.out.size)); clear hl hb d0 d1 d2 d3 d4 d5 d6 d7 d8)
    | ((with_reducible refine store_row (o := ⟨none, _, _, _, _, _⟩) rfl _ (.tmp 10) _ rfl w6.heap.size (ldC m1.q m1.u m1.h m1.n a10 n10 c10) ?_ ?_ 50 _ RX10.out ?_ ?_ ?_ ?_); (focus go_simp); (focus (first | (go_simp; done) | (go_simp; rfl))); (focus (exact LZS.out)); (focus rfl); (focus (exact ld_one _ _ _ _ _ _ _)); intro w11 hr hu; have RX11 := Lib.hid hr; have R911 := Lib.hid (R910.out.upd hu (Nat.ne_of_lt S6.out)); have R611 := Lib.hid (R610.out.upd hu (Nat.ne_of_lt (Nat.lt_trans S4.out (Nat.lt_trans S5.out S6.out)))); have R711 := Lib.hid (R710.out.upd hu (Nat.ne_of_lt (Nat.lt_trans S5.out S6.out))); have L11 := Lib.hid (L10.out.upd5 RX10.out (show 5 ≤ 5 from Nat.le_refl 5) hu); have K11 := Lib.hid (K10.out.upd5 RX10.out (show 5 ≤ 5 from Nat.le_refl 5) hu); have B11 := Lib.hid (B10.out.trans (hu.below B6.out.size)); clear hr hu))
  refine region_h (fun v => Row v w5.heap.size 50 (ldC m1.q m1.u m1.h m1.n a8 n8 c8) ∧ Row v w6.heap.size 50 (ldC m1.q m1.u m1.h m1.n a10 n10 c10)) (by kernel_rfl) (by kernel_rfl) (And.intro (R911.out.drewN 1) (RX11.out.drewN 1)) ?_
  obtain ⟨wd, hwd⟩ : ∃ wd, w11.drew = wd := ⟨_, rfl⟩
  have D0 : Hid (Below w11.heap.size w11 wd) := Lib.hid (by rw [← hwd]; exact (Below.refl _ _).drew)
  rw [hwd]
  clear hwd
  (refine h_read 0 rfl (by kernel_rfl) (by kernel_rfl) (h_free rfl) ?_ ?_ ?_; rotate_left; (focus (intro v hv; refine run_cells 50 (.tmp 9) ?_ w5.heap.size 0 ?_ (ldC m1.q m1.u m1.h m1.n a8 n8 c8) _ (fun j' u' hj => by rw [Nat.zero_add, hv.1.cellV]; exact hj) Try.underlying50 rfl ld_size; (focus rfl); go_simp)); go_simp)
  (refine h_read 1 rfl (by kernel_rfl) (by kernel_rfl) (h_free rfl) ?_ ?_ ?_; rotate_left; (focus (intro v hv; refine run_cells 50 (.tmp 10) ?_ w6.heap.size 0 ?_ (ldC m1.q m1.u m1.h m1.n a10 n10 c10) _ (fun j' u' hj => by rw [Nat.zero_add, hv.2.cellV]; exact hj) Try.underlying50 rfl ld_size; (focus rfl); go_simp)); go_simp)
  (refine h_read 2 rfl (by kernel_rfl) (by kernel_rfl) (h_free rfl) ?_ ?_ ?_; rotate_left; (focus (intro v hv; go_simp; rfl)); go_simp)
  (refine h_read 3 rfl (by kernel_rfl) (by kernel_rfl) (h_free rfl) ?_ ?_ ?_; rotate_left; (focus (intro v hv; go_simp; rfl)); go_simp)
  (refine h_read 4 rfl (by kernel_rfl) (by kernel_rfl) (h_free rfl) ?_ ?_ ?_; rotate_left; (focus (intro v hv; go_simp; rfl)); go_simp)
  (refine h_read 5 rfl (by kernel_rfl) (by kernel_rfl) (h_free rfl) ?_ ?_ ?_; rotate_left; (focus (intro v hv; go_simp; rfl)); go_simp)
  (refine h_read 6 rfl (by kernel_rfl) (by kernel_rfl) ?_ ?_ ?_ ?_; (focus (go_simp; done)); rotate_left; (focus (intro v hv; go_simp; rfl)); go_simp)
  (refine h_read 7 rfl (by kernel_rfl) (by kernel_rfl) ?_ ?_ ?_ ?_; (focus (go_simp; done)); rotate_left; (focus (intro v hv; go_simp; rfl)); go_simp)
  (refine h_read 8 rfl (by kernel_rfl) (by kernel_rfl) ?_ ?_ ?_ ?_; (focus (go_simp; done)); rotate_left; (focus (intro v hv; go_simp; rfl)); go_simp)
  (refine h_read 9 rfl (by kernel_rfl) (by kernel_rfl) (h_free rfl) ?_ ?_ ?_; rotate_left; (focus (intro v hv; go_simp; rfl)); go_simp)
  (refine h_read 10 rfl (by kernel_rfl) (by kernel_rfl) (h_free rfl) ?_ ?_ ?_; rotate_left; (focus (intro v hv; go_simp; rfl)); go_simp)
  (refine h_read 11 rfl (by kernel_rfl) (by kernel_rfl) ?_ ?_ ?_ ?_; (focus (go_simp; done)); rotate_left; (focus (intro v hv; refine run_cells 50 (.tmp 9) ?_ w5.heap.size 0 ?_ (ldC m1.q m1.u m1.h m1.n a8 n8 c8) _ (fun j' u' hj => by rw [Nat.zero_add, hv.1.cellV]; exact hj) Try.underlying50 rfl ld_size; (focus rfl); go_simp)); go_simp)
  (refine h_read 12 rfl (by kernel_rfl) (by kernel_rfl) ?_ ?_ ?_ ?_; (focus (go_simp; done)); rotate_left; (focus (intro v hv; refine run_cells 50 (.tmp 10) ?_ w6.heap.size 0 ?_ (ldC m1.q m1.u m1.h m1.n a10 n10 c10) _ (fun j' u' hj => by rw [Nat.zero_add, hv.2.cellV]; exact hj) Try.underlying50 rfl ld_size; (focus rfl); go_simp)); go_simp)
  (refine h_call 13 rfl (by kernel_rfl) ?_ 56 ?_ ?_ ?_; (focus (go_simp; done)); rotate_left; (focus (go_simp; rfl)))
  refine (ysame m1.q m1.u m1.h m1.n a8 n8 c8 m1.L m1.q m1.u m1.h m1.n a10 n10 c10 m1.L wd (K11.out.mono hdOk D0.out) (L11.out.mono hdOk D0.out) true (by simp)).mono ?_
  rintro e w12 ⟨rfl, hb⟩
  have D12 := Lib.hid (D0.out.trans (hb.mono D0.out.size))
  have R912 := Lib.hid (R911.out.below D12.out R911.out.lt)
  have RX12 := Lib.hid (RX11.out.below D12.out RX11.out.lt)
  have R612 := Lib.hid (R611.out.below D12.out R611.out.lt)
  have R712 := Lib.hid (R711.out.below D12.out R711.out.lt)
  have K12 := Lib.hid (K11.out.mono hdOk D12.out)
  have L12 := Lib.hid (L11.out.mono hdOk D12.out)
  have B12 := Lib.hid (B11.out.trans (D12.out.mono B11.out.size))
  clear hb
  refine ⟨_, rfl, ⟨R912.out, RX12.out⟩, ?_⟩
  go_simp
  (refine h_read 14 rfl (by kernel_rfl) (by kernel_rfl) (h_free rfl) ?_ ?_ ?_; rotate_left; (focus (intro v hv; go_simp; rfl)); go_simp)
  (refine h_list 15 rfl (by kernel_rfl) ?_; intro K hK)
  refine store_row rfl _ _ _ rfl w3.heap.size (ldC m1.q m1.u m1.h m1.n a8 n8 c8) (by go_simp) (by go_simp) 50 _ R612.out LZS.out rfl (ld_one _ _ _ _ _ _ _) ?_
  intro w13 hr hu
  have R613 := Lib.hid hr
  have R913 := Lib.hid (R912.out.upd hu (Nat.ne_of_gt (Nat.lt_trans S4.out S5.out)))
  have RX13 := Lib.hid (RX12.out.upd hu (Nat.ne_of_gt (Nat.lt_trans S4.out (Nat.lt_trans S5.out S6.out))))
  have R713 := Lib.hid (R712.out.upd hu (Nat.ne_of_gt S4.out))
  have K13 := Lib.hid (K12.out.upd5 R612.out (show 5 ≤ 5 from Nat.le_refl 5) hu)
  have L13 := Lib.hid (L12.out.upd5 R612.out (show 5 ≤ 5 from Nat.le_refl 5) hu)
  have B13 := Lib.hid (B12.out.trans (hu.below B3.out.size))
  clear hr hu
  refine hK _ _ ⟨R913.out, RX13.out⟩ ?_
  go_simp
  (refine h_list 16 rfl (by kernel_rfl) ?_; intro K hK)
  refine store_row rfl _ _ _ rfl w4.heap.size (ldC m1.q m1.u m1.h m1.n a10 n10 c10) (by go_simp) (by go_simp) 50 _ R713.out LZS.out rfl (ld_one _ _ _ _ _ _ _) ?_
  intro w14 hr hu
  have R714 := Lib.hid hr
  have R914 := Lib.hid (R913.out.upd hu (Nat.ne_of_gt S5.out))
  have RX14 := Lib.hid (RX13.out.upd hu (Nat.ne_of_gt (Nat.lt_trans S5.out S6.out)))
  have R614 := Lib.hid (R613.out.upd hu (Nat.ne_of_lt S4.out))
  have K14 := Lib.hid (K13.out.upd5 R713.out (show 5 ≤ 5 from Nat.le_refl 5) hu)
  have L14 := Lib.hid (L13.out.upd5 R713.out (show 5 ≤ 5 from Nat.le_refl 5) hu)
  have B14 := Lib.hid (B13.out.trans (hu.below B4.out.size))
  clear hr hu
  refine hK _ _ ⟨R914.out, RX14.out⟩ ?_
  go_simp
  (refine h_read 17 rfl (by kernel_rfl) (by kernel_rfl) (h_free rfl) ?_ ?_ ?_; rotate_left; (focus (intro v hv; go_simp; rfl)); go_simp)
  refine h_done (by kernel_rfl) ?_
  go_wp2_with fail
  exact bodyPost_ret (results_cc_tmp rfl _ _ w3.heap.size w4.heap.size 50 50 _ _ _ _ _ (by go_simp) (by go_simp) R614.out R714.out Try.underlying50 rfl LZS.out LZS.out) rfl ⟨_, _, rfl, ⟨_, _, _, rfl, K14.out⟩, ⟨_, _, _, rfl, L14.out⟩, B14.out⟩
end Go.Proofs.Ytiopcojkdglapaa.W

namespace Go.Proofs.Ytiopcojkdglapaa.W
open Go Go.ChangeShapes Go.WideShapes Go.ChangeAt Go.RowKit
open Go.Proofs.Ytiopcojkdglapaa.P (enc dec)

set_option maxHeartbeats 4000000 in
theorem do_any19 (hP : LdP) (v x : Value) (l : Ld) (d : Do19) (w : World) (hv : LdV w v l) (hx : LdV w x l) (hok : OkL l) (hd : d.fit) :
    Calls Try.prog 45 #[v, x, .agg d.cells.toArray] w fun e w' => ∃ v' x', e = .returned (.tuple #[v', x', .bool true]) ∧ LdV w' v' (d.on l) ∧ LdV w' x' (d.on l) ∧ Below w.heap.size w w' := by
  obtain ⟨a, n, c, rfl, hv⟩ := hv
  obtain ⟨a2, n2, c2, rfl, hx⟩ := hx
  have hh := hd.h
  obtain ⟨op, id, nn, i1, i2, i3, i4, i5, sp⟩ := d
  unfold Do19.on
  dsimp only at hh ⊢
  by_cases h0 : op = 0
  · subst h0
    rw [if_pos (.inl rfl)]
    exact do19_reserve0 hP a a2 n c n2 c2 l id nn i1 i2 i3 i4 i5 sp w hv hx hok hh
  by_cases h1 : op = 1
  · subst h1
    rw [if_pos (.inr (.inl rfl))]
    exact do19_reserve1 hP a a2 n c n2 c2 l id nn i1 i2 i3 i4 i5 sp w hv hx hok hh
  by_cases h2 : op = 2
  · subst h2
    rw [if_pos (.inr (.inr rfl))]
    exact do19_reserve2 hP a a2 n c n2 c2 l id nn i1 i2 i3 i4 i5 sp w hv hx hok hh
  rw [if_neg (by simp [h0, h1, h2])]
  by_cases h3 : op = 3
  · subst h3
    rw [if_pos rfl]
    exact do19_release hP a a2 n c n2 c2 l id nn i1 i2 i3 i4 i5 sp w hv hx hok hh
  rw [if_neg h3]
  by_cases h4 : op = 4
  · subst h4
    rw [if_pos rfl]
    exact do19_spend hP a a2 n c n2 c2 l id nn i1 i2 i3 i4 i5 sp w hv hx hok hh
  rw [if_neg h4]
  by_cases h5 : op = 5
  · subst h5
    rw [if_pos rfl]
    exact do19_free hP a a2 n c n2 c2 l id nn i1 i2 i3 i4 i5 sp w hv hx hok hh
  rw [if_neg h5]
  by_cases h6 : op = 6
  · subst h6
    rw [if_pos rfl]
    exact do19_quota hP a a2 n c n2 c2 l id nn i1 i2 i3 i4 i5 sp w hv hx hok hh
  rw [if_neg h6]
  exact do19_expire hP a a2 n c n2 c2 l op id nn i1 i2 i3 i4 i5 sp w hv hx hok hh h0 h1 h2 h3 h4 h5 h6
end Go.Proofs.Ytiopcojkdglapaa.W

namespace Go.Proofs.Ytiopcojkdglapaa.W
open Go Go.ChangeShapes Go.WideShapes Go.ChangeAt Go.RowKit
open Go.Proofs.Ytiopcojkdglapaa.P (enc dec)

theorem LdV.upd5 {w w' : World} {v : Value} {l : Ld} {g : Nat} {t : TypeId} {q u h nx : Int} {a : Option Addr} {n c : Nat} (h1 : LdV w v l) (hr : Row w g t (ldC q u h nx a n c)) (hu : Upd w w' g) : LdV w' v l := by
  obtain ⟨a2, n2, c2, hv, hl⟩ := h1
  exact ⟨a2, n2, c2, hv, hl.upd5 hr (show 5 ≤ 5 from Nat.le_refl 5) hu⟩
def aw19h (b : Int) (i : Int) : Hd := ⟨i, 0, b, 0, 0, ⟨#[97]⟩⟩
def aw19 : Ld := ⟨10, 4, 5, 2, [aw19h 5 1]⟩
theorem aw19_ok : OkL aw19 := ok_ld.1 (by decide +kernel)
theorem aw19_1 : (aw19.reserve (aw19h 2 0)).2 = (0, 14) := by decide +kernel
theorem aw19_2 : (aw19.reserve (aw19h 1 0)).2 = (2, 0) := by decide +kernel
theorem aw19_fit (b i : Int) (h : SI64 b) (h' : SI64 i) : (aw19h b i).fit := ⟨h', (show SI64 0 from ⟨by decide, by decide⟩), h, (show SI64 0 from ⟨by decide, by decide⟩), (show SI64 0 from ⟨by decide, by decide⟩), (show (⟨#[97]⟩ : ByteArray).size ≤ maxLen by decide)⟩
theorem aw19_b1 : Try.prog.built 52 [(0, .int .i64 1), (2, .int .i64 5), (5, .string ⟨#[97]⟩)] = some (aw19h 5 1).cells.toArray := by kernel_rfl
theorem aw19_b2 : Try.prog.built 52 [(2, .int .i64 2), (5, .string ⟨#[97]⟩)] = some (aw19h 2 0).cells.toArray := by kernel_rfl
theorem aw19_b3 : Try.prog.built 52 [(2, .int .i64 1), (5, .string ⟨#[97]⟩)] = some (aw19h 1 0).cells.toArray := by kernel_rfl
theorem aw19_b4 (g : Nat) : Try.prog.built 50 [(0, .int .i64 10), (1, .int .i64 4), (2, .int .i64 5), (3, .int .i64 2), (4, .slice (some ⟨g, 0, none⟩) 1 1)] = some (ldC 10 4 5 2 (some ⟨g, 0, none⟩) 1 1).toArray := by kernel_rfl
set_option maxRecDepth 100000 in
set_option maxHeartbeats 8000000 in
theorem awake19 (hP : LdP) (w : World) : Calls Try.prog 43 #[] w fun x w' => x = .returned (.bool true) ∧ Below w.heap.size w w' := by
  have H1 := Lib.hid (fun (v : Value) (w : World) (h : LdV w v aw19) => hP.reserve v aw19 (aw19h 2 0) w h aw19_ok (aw19_fit 2 0 ⟨by decide, by decide⟩ ⟨by decide, by decide⟩))
  have H2 := Lib.hid (fun (v : Value) (w : World) (h : LdV w v aw19) => hP.reserve v aw19 (aw19h 1 0) w h aw19_ok (aw19_fit 1 0 ⟨by decide, by decide⟩ ⟨by decide, by decide⟩))
  simp only [aw19_1] at H1
  simp only [aw19_2] at H2
  have LZS := Lib.hid ld_size
  have LZ := Lib.hid ld_zero
  have FT := Lib.hid (aw19_fit 5 1 ⟨by decide, by decide⟩ ⟨by decide, by decide⟩)
  clear hP
  go_enter Try.func43, Try.ntmps43
  go_wp2_with (first
    | ((with_reducible refine build_row (o := ⟨some 8, _, _, _, _, _⟩) rfl _ _ rfl (aw19h 5 1).cells ?_ ?_); (focus (go_simp; exact aw19_b1)))
    | ((with_reducible refine build_ls hdOk hd_fill (o := ⟨some 9, _, _, _, _, _⟩) rfl _ rfl (aw19h 5 1) ?_ ?_ (by decide) ?_); (focus (first | (go_simp; done) | (go_simp; rfl))); (focus (exact FT.out)); intro w1 hl hb hz; have L1 := Lib.hid hl; have B1 := Lib.hid hb; clear hl hb hz)
    | ((with_reducible refine build_row (o := ⟨some 10, _, _, _, _, _⟩) rfl _ _ rfl (ldC 10 4 5 2 (some ⟨w.heap.size, 0, none⟩) 1 1) ?_ ?_); (focus (go_simp; exact aw19_b4 _)))
    | ((with_reducible refine alloc_row (o := ⟨some 1, _, _, _, _, _⟩) rfl _ rfl _ LZ.out ?_); intro w2 hr hb hz; have R2 := Lib.hid hr; have L2 := Lib.hid (L1.out.mono hdOk hb); have B2 := Lib.hid (B1.out.trans (hb.mono B1.out.size)); clear hr hb hz)
    | ((with_reducible refine store_row (o := ⟨none, _, _, _, _, _⟩) rfl _ (.tmp 1) _ rfl w1.heap.size (ldC 10 4 5 2 (some ⟨w.heap.size, 0, none⟩) 1 1) ?_ ?_ 50 _ R2.out ?_ ?_ ?_ ?_); (focus go_simp); (focus (first | (go_simp; done) | (go_simp; rfl))); (focus (exact LZS.out)); (focus rfl); (focus (exact ld_one _ _ _ _ _ _ _)); intro w3 hr hu; have R3 := Lib.hid hr; have V3 := Lib.hid (show LdV w3 (.agg (ldC 10 4 5 2 (some ⟨w.heap.size, 0, none⟩) 1 1).toArray) aw19 from ⟨_, _, _, rfl, L2.out.upd5 R2.out (show 5 ≤ 5 from Nat.le_refl 5) hu⟩); have B3 := Lib.hid (B2.out.trans (hu.below B1.out.size)); clear hr hu)
    | ((with_reducible refine load_row (o := ⟨some 12, _, _, _, _, _⟩) rfl _ _ rfl w1.heap.size ?_ _ (ldC 10 4 5 2 (some ⟨w.heap.size, 0, none⟩) 1 1) _ R3.out Try.underlying50 rfl ?_ ?_); (focus go_simp); (focus (exact LZS.out)))
    | ((with_reducible refine build_row (o := ⟨some 13, _, _, _, _, _⟩) rfl _ _ rfl (aw19h 2 0).cells ?_ ?_); (focus (go_simp; exact aw19_b2)))
    | (go_at_call 49; (with_reducible refine (H1.out _ w3 V3.out).mono ?_); rintro e w4 ⟨v4, rfl, ⟨a4, n4, c4, rfl, -⟩, hb⟩; have R4 := Lib.hid (R3.out.below hb R3.out.lt); have V4 := Lib.hid (V3.out.mono hb); have B4 := Lib.hid (B3.out.trans (hb.mono B3.out.size)); clear hb)
    | ((with_reducible refine alloc_row (o := ⟨some 2, _, _, _, _, _⟩) rfl _ rfl _ LZ.out ?_); intro w5 hr hb hz; have RA5 := Lib.hid hr; have R5 := Lib.hid (R4.out.below hb R4.out.lt); have V5 := Lib.hid (V4.out.mono hb); have B5 := Lib.hid (B4.out.trans (hb.mono B4.out.size)); clear hr hb hz)
    | ((with_reducible refine store_row (o := ⟨none, _, _, _, _, _⟩) rfl _ (.tmp 2) _ rfl w4.heap.size (ldC (aw19.reserve (aw19h 2 0)).1.q (aw19.reserve (aw19h 2 0)).1.u (aw19.reserve (aw19h 2 0)).1.h (aw19.reserve (aw19h 2 0)).1.n a4 n4 c4) ?_ ?_ 50 _ RA5.out ?_ ?_ ?_ ?_); (focus go_simp); (focus (first | (go_simp; done) | (go_simp; rfl))); (focus (exact LZS.out)); (focus rfl); (focus (exact ld_one _ _ _ _ _ _ _)); intro w6 hr hu; have R6 := Lib.hid (R5.out.upd hu (Nat.ne_of_lt R4.out.lt)); have V6 := Lib.hid (V5.out.upd5 RA5.out hu); have B6 := Lib.hid (B5.out.trans (hu.below B4.out.size)); clear hr hu)
    | ((with_reducible refine load_row (o := ⟨some 19, _, _, _, _, _⟩) rfl _ _ rfl w1.heap.size ?_ _ (ldC 10 4 5 2 (some ⟨w.heap.size, 0, none⟩) 1 1) _ R6.out Try.underlying50 rfl ?_ ?_); (focus go_simp); (focus (exact LZS.out)))
    | ((with_reducible refine build_row (o := ⟨some 20, _, _, _, _, _⟩) rfl _ _ rfl (aw19h 1 0).cells ?_ ?_); (focus (go_simp; exact aw19_b3)))
    | (go_at_call 49; (with_reducible refine (H2.out _ w6 V6.out).mono ?_); rintro e w7 ⟨v7, rfl, ⟨a7, n7, c7, rfl, -⟩, hb⟩; have B7 := Lib.hid (B6.out.trans (hb.mono B6.out.size)); clear hb)
    | ((with_reducible refine alloc_row (o := ⟨some 5, _, _, _, _, _⟩) rfl _ rfl _ LZ.out ?_); intro w8 hr hb hz; have RB8 := Lib.hid hr; have B8 := Lib.hid (B7.out.trans (hb.mono B7.out.size)); clear hr hb hz)
    | ((with_reducible refine store_row (o := ⟨none, _, _, _, _, _⟩) rfl _ (.tmp 5) _ rfl w7.heap.size (ldC (aw19.reserve (aw19h 1 0)).1.q (aw19.reserve (aw19h 1 0)).1.u (aw19.reserve (aw19h 1 0)).1.h (aw19.reserve (aw19h 1 0)).1.n a7 n7 c7) ?_ ?_ 50 _ RB8.out ?_ ?_ ?_ ?_); (focus go_simp); (focus (first | (go_simp; done) | (go_simp; rfl))); (focus (exact LZS.out)); (focus rfl); (focus (exact ld_one _ _ _ _ _ _ _)); intro w9 hr hu; have B9 := Lib.hid (B8.out.trans (hu.below B7.out.size)); clear hr hu))
  go_ret
  exact ⟨by first | rfl | exact one (vbool (by simp)), B9.out⟩
end Go.Proofs.Ytiopcojkdglapaa.W
