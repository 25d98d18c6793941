/- LAYER 11 (record): Apply of the program. -/
import Derived.Test.YtbcaphkbjeejhaaRcZ
import Derived.Test.YtbcaphkbjeejhaaRcFo
import Derived.Test.YtbcaphkbjeejhaaRcH
import Derived.Test.YtbcaphkbjeejhaaRcC
set_option linter.unusedSimpArgs false
set_option linter.unusedVariables false
namespace Go.Proofs.Ytbcaphkbjeejhaa.W
open Go Go.ChangeShapes Go.WideShapes Go.ChangeAt Go.RowKit

/-- a state whose entries lie in a row of the call's own -/
structure SvO (w : World) (base : Nat) (s : Sv) (d : List UInt8) (L : List (En × List UInt8)) : Prop where
  rd : Rd w s.a s.n s.c d
  row : ∃ g R, s.ea = some ⟨g, 0, none⟩ ∧ base ≤ g ∧ Row w g 27 (flat R) ∧ R.length = s.ec ∧ s.en ≤ s.ec ∧ R.take s.en = L.map (·.1)
  fit : ∀ p ∈ L, EnF w p.1 p.2
  cap : s.ec ≤ 1000000
theorem EnF.put {w w' : World} {e : En} {l : List UInt8} {g : Nat} {t : TypeId} {L : List Value} (h : EnF w e l) (hq : Row w g t L) (hnb : NB L) (hu : Upd w w' g) : EnF w' e l := ⟨h.ix, h.tm, h.kd, h.rd.put hq hnb hu⟩
def svZ : Sv := ⟨0, 0, 0, 0, 0, none, 0, 0, none, 0, 0⟩
set_option maxRecDepth 100000 in
set_option maxHeartbeats 8000000 in
theorem rapp_bad (s : Sv) (d : List UInt8) (L : List (En × List UInt8)) (r : Rc) (l p : List UInt8) (w : World) (h : SvF w s d L) (hr : RcF w r l p) (hsn : s.n ≤ 140737488355000) (hsl : s.en ≤ 1000000) (hbig : ∀ p ∈ L, p.1.n ≤ 140737488355000) (hck : chkR r l p = 1) :
    Calls Try.prog 12 #[.agg s.cells.toArray, .agg r.cells.toArray] w fun x w' => ∃ s' L', x = .returned (.tuple #[.agg (Sv.cells s').toArray, .int .i64 1]) ∧ SvO w' w.heap.size s' d L' ∧ s'.t = s.t ∧ s'.v = s.v ∧ s'.b = s.b ∧ s'.bt = s.bt ∧ s'.f = s.f ∧ s'.n = s.n ∧ s'.en = s.en ∧ L'.map pe = L.map pe ∧ Below w.heap.size w w' := by
  have H := Lib.hid h
  have HRE := Lib.hid hr.e.rd
  have HRS := Lib.hid hr.rd
  have HCK := Lib.hid hck
  have HLN := Lib.hid h.es.hlen
  have SZ := Lib.hid sv_zero
  have SS := Lib.hid sv_size
  have RS := Lib.hid rc_size
  clear h hr hck
  go_enter Try.func12, Try.ntmps12
  go_wp2_with (first
    | (with_reducible refine box_row (o := ⟨some 2, _, _, _, _, _⟩) rfl _ _ rfl s.cells rfl ?_; intro w1 hr1 hb1 hz1; have S1 := Lib.hid hr1; have B1 := Lib.hid hb1; clear hr1 hb1 hz1)
    | (with_reducible refine box_row (o := ⟨some 3, _, _, _, _, _⟩) rfl _ _ rfl r.cells rfl ?_; intro w2 hr2 hb2 hz2; have R2 := Lib.hid hr2; have S2 := Lib.hid (S1.out.below hb2 S1.out.lt); have L1 := Lib.hid (show w.heap.size < w1.heap.size from S1.out.lt); have B2 := Lib.hid (B1.out.trans (hb2.mono B1.out.size)); clear hr2 hb2 hz2)
    | ((with_reducible refine alloc_row (o := ⟨some 4, _, _, _, _, _⟩) rfl _ rfl _ SZ.out ?_); intro w3 hr3 hb3 hz3; have Z3 := Lib.hid hr3; have L2 := Lib.hid (show w1.heap.size < w2.heap.size from R2.out.lt); have S3 := Lib.hid (S2.out.below hb3 S2.out.lt); have R3 := Lib.hid (R2.out.below hb3 R2.out.lt); have B3 := Lib.hid (B2.out.trans (hb3.mono B2.out.size)); have L3 := Lib.hid (show w2.heap.size < w3.heap.size from hr3.lt); clear hr3 hb3 hz3)
    | ((with_reducible refine load_row (o := ⟨some 8, _, _, _, _, _⟩) rfl _ _ rfl w.heap.size ?_ _ s.cells _ S3.out Try.underlying25 rfl ?_ ?_); (focus go_simp); (focus (exact SS.out)))
    | (go_at_call 50; (with_reducible refine (scopied s d L w3 ?_ hsn hsl hbig).mono ?_); (focus (exact H.out.mono B3.out)); rintro x w4 ⟨ca, cc, g, L', rfl, hrd, hgb, hrow, hfit, hpe, hb⟩; have D4 := Lib.hid hrd; have GB := Lib.hid hgb; have G4 := Lib.hid hrow; have F4 := Lib.hid hfit; have PE := Lib.hid hpe; have S4 := Lib.hid (S3.out.below hb S3.out.lt); have R4 := Lib.hid (R3.out.below hb R3.out.lt); have Z4 := Lib.hid (Z3.out.below hb Z3.out.lt); have B4 := Lib.hid (B3.out.trans (hb.mono B3.out.size)); clear hrd hgb hrow hfit hpe hb)
    | ((with_reducible refine alloc_row (o := ⟨some 6, _, _, _, _, _⟩) rfl _ rfl _ SZ.out ?_); intro w5 hr hb hz; have E5 := Lib.hid hr; have L4 := Lib.hid (show g < w4.heap.size ∧ w2.heap.size < w4.heap.size from ⟨G4.out.lt, Z4.out.lt⟩); have D5 := Lib.hid (D4.out.mono hb); have G5 := Lib.hid (G4.out.below hb G4.out.lt); have F5 := Lib.hid (fun p hp => (F4.out p hp).mono hb); have S5 := Lib.hid (S4.out.below hb S4.out.lt); have R5 := Lib.hid (R4.out.below hb R4.out.lt); have Z5 := Lib.hid (Z4.out.below hb Z4.out.lt); have B5 := Lib.hid (B4.out.trans (hb.mono B4.out.size)); clear hr hb hz)
    | ((with_reducible refine store_row (o := ⟨none, _, _, _, _, _⟩) rfl _ (.tmp 6) _ rfl w4.heap.size (Sv.cells ⟨s.t, s.v, s.b, s.bt, s.f, ca, s.n, cc, some ⟨g, 0, none⟩, s.en, s.en⟩) ?_ ?_ 25 _ E5.out ?_ ?_ ?_ ?_); (focus go_simp); (focus (first | (go_simp; done) | (go_simp; rfl))); (focus (exact SS.out)); (focus rfl); (focus (exact sv_one _)); intro w6 hr hu; have E6 := Lib.hid hr; have D6 := Lib.hid (D5.out.put E5.out (NB_sv svZ) hu); have G6 := Lib.hid (G5.out.upd hu (by have := L4.out; omega)); have F6 := Lib.hid (fun p hp => EnF.put (F5.out p hp) E5.out (NB_sv svZ) hu); have S6 := Lib.hid (S5.out.upd hu (by have := L4.out; have := L2.out; have := L1.out; omega)); have R6 := Lib.hid (R5.out.upd hu (by have := L4.out; have := L2.out; omega)); have Z6 := Lib.hid (Z5.out.upd hu (by have := L4.out; omega)); have B6 := Lib.hid (B5.out.trans (hu.below B4.out.size)); clear hr hu)
    | ((with_reducible refine load_row (o := ⟨some 10, _, _, _, _, _⟩) rfl _ _ rfl w1.heap.size ?_ _ r.cells _ R6.out Try.underlying29 rfl ?_ ?_); (focus go_simp); (focus (exact RS.out)))
    | (go_at_call 51; (with_reducible refine (rcheck r l p w6 ?_ ?_).mono ?_); (focus (exact HRE.out.mono B6.out)); (focus (exact HRS.out.mono B6.out)); rw [HCK.out]; rintro x w7 ⟨rfl, hb⟩; have E7 := Lib.hid (E6.out.below hb E6.out.lt); have D7 := Lib.hid (D6.out.mono hb); have G7 := Lib.hid (G6.out.below hb G6.out.lt); have F7 := Lib.hid (fun p hp => (F6.out p hp).mono hb); have S7 := Lib.hid (S6.out.below hb S6.out.lt); have R7 := Lib.hid (R6.out.below hb R6.out.lt); have Z7 := Lib.hid (Z6.out.below hb Z6.out.lt); have B7 := Lib.hid (B6.out.trans (hb.mono B6.out.size)); clear hb)
    | ((with_reducible refine load_row (o := ⟨some 14, _, _, _, _, _⟩) rfl _ _ rfl w4.heap.size ?_ _ (Sv.cells ⟨s.t, s.v, s.b, s.bt, s.f, ca, s.n, cc, some ⟨g, 0, none⟩, s.en, s.en⟩) _ E7.out Try.underlying25 rfl ?_ ?_); (focus go_simp); (focus (exact SS.out)))
    | ((with_reducible refine store_row (o := ⟨none, _, _, _, _, _⟩) rfl _ (.tmp 4) _ rfl w2.heap.size (Sv.cells ⟨s.t, s.v, s.b, s.bt, s.f, ca, s.n, cc, some ⟨g, 0, none⟩, s.en, s.en⟩) ?_ ?_ 25 _ Z7.out ?_ ?_ ?_ ?_); (focus go_simp); (focus (first | (go_simp; done) | (go_simp; rfl))); (focus (exact SS.out)); (focus rfl); (focus (exact sv_one _)); intro w8 hr hu; have E8 := Lib.hid hr; have D8 := Lib.hid (D7.out.put Z7.out (NB_sv svZ) hu); have G8 := Lib.hid (G7.out.upd hu (by have := GB.out; have := L3.out; omega)); have F8 := Lib.hid (fun p hp => EnF.put (F7.out p hp) Z7.out (NB_sv svZ) hu); have B8 := Lib.hid (B7.out.trans (hu.below B2.out.size)); clear hr hu))
  have hlen : L'.length = s.en := by have := congrArg List.length PE.out; simp at this; rw [this]; exact HLN.out
  exact bodyPost_ret (results_row_tmp rfl _ _ w2.heap.size 25 _ _ _ (by go_simp) E8.out Try.underlying25 rfl SS.out) rfl ⟨⟨s.t, s.v, s.b, s.bt, s.f, ca, s.n, cc, some ⟨g, 0, none⟩, s.en, s.en⟩, L', rfl, ⟨D8.out, ⟨g, L'.map (·.1), rfl, Nat.le_trans B3.out.size GB.out, G8.out, by rw [List.length_map]; exact hlen, Nat.le_refl _, List.take_of_length_le (by rw [List.length_map, hlen]; exact Nat.le_refl _)⟩, F8.out, hsl⟩, rfl, rfl, rfl, rfl, rfl, rfl, rfl, PE.out, B8.out⟩
theorem rfollows (s : Sv) (d : List UInt8) (L : List (En × List UInt8)) (r : Rc) (w : World) (h : SvF w s d L) (h3 : r.k = 3 → 1 ≤ r.e.ix ∧ r.e.ix ≤ 2147483648) (hk : r.k = 1 ∨ r.k = 2 ∨ r.k = 3 ∨ r.k = 4) : Calls Try.prog 52 #[.agg s.cells.toArray, .agg r.cells.toArray] w fun x w' => x = .returned (.bool (follV s.b L r)) ∧ Below w.heap.size w w' := by
  obtain ⟨k, t, v, ⟨ix, tm, kd, a, n, c⟩, i, f, sa, sn, sc⟩ := r
  dsimp only at h3 hk
  rcases hk with rfl | rfl | rfl | rfl
  · exact rfol1 s d L t v ix tm kd i f a sa n c sn sc w h
  · exact rfol2 s d L t v ix tm kd i f a sa n c sn sc w h
  · exact rfol3 s d L t v ix tm kd i f a sa n c sn sc w h (h3 rfl)
  · exact rfol4 s d L t v ix tm kd i f a sa n c sn sc w h
theorem Rd.gwr {w w' : World} {g : Nat} {t : TypeId} {a : Option Addr} {n c : Nat} {l : List UInt8} {L : List Value} (h : Rd w a n c l) (hq : Row w g t L) (hnb : NB L) (k : Gw g w w') : Rd w' a n c l := h.gw k (fun hn => (h.apart hq (fun x hx => hnb x (by simpa using hx))).resolve_left hn)
set_option maxRecDepth 100000 in
set_option maxHeartbeats 8000000 in
theorem rapp_log (s : Sv) (d : List UInt8) (L : List (En × List UInt8)) (r : Rc) (l p : List UInt8) (w : World) (h : SvF w s d L) (hr : RcF w r l p) (hsn : s.n ≤ 140737488355000) (hsl : s.en ≤ 1000000) (hbig : ∀ p ∈ L, p.1.n ≤ 140737488355000) (hck : chkR r l p = 0) (h3 : r.k = 3 → 1 ≤ r.e.ix ∧ r.e.ix ≤ 2147483648) (hk : r.k = 1 ∨ r.k = 2 ∨ r.k = 3 ∨ r.k = 4) (hfo : follV s.b L r = false) :
    Calls Try.prog 12 #[.agg s.cells.toArray, .agg r.cells.toArray] w fun x w' => ∃ s' L', x = .returned (.tuple #[.agg (Sv.cells s').toArray, .int .i64 10]) ∧ SvO w' w.heap.size s' d L' ∧ s'.t = s.t ∧ s'.v = s.v ∧ s'.b = s.b ∧ s'.bt = s.bt ∧ s'.f = s.f ∧ s'.n = s.n ∧ s'.en = s.en ∧ L'.map pe = L.map pe ∧ Below w.heap.size w w' := by
  have H := Lib.hid h
  have HRE := Lib.hid hr.e.rd
  have HRS := Lib.hid hr.rd
  have HCK := Lib.hid hck
  have HLN := Lib.hid h.es.hlen
  have SZ := Lib.hid sv_zero
  have SS := Lib.hid sv_size
  have RS := Lib.hid rc_size
  have HFO := Lib.hid hfo
  clear hfo
  clear h hr hck
  go_enter Try.func12, Try.ntmps12
  go_wp2_with (first
    | (with_reducible refine box_row (o := ⟨some 2, _, _, _, _, _⟩) rfl _ _ rfl s.cells rfl ?_; intro w1 hr1 hb1 hz1; have S1 := Lib.hid hr1; have B1 := Lib.hid hb1; clear hr1 hb1 hz1)
    | (with_reducible refine box_row (o := ⟨some 3, _, _, _, _, _⟩) rfl _ _ rfl r.cells rfl ?_; intro w2 hr2 hb2 hz2; have R2 := Lib.hid hr2; have S2 := Lib.hid (S1.out.below hb2 S1.out.lt); have L1 := Lib.hid (show w.heap.size < w1.heap.size from S1.out.lt); have B2 := Lib.hid (B1.out.trans (hb2.mono B1.out.size)); clear hr2 hb2 hz2)
    | ((with_reducible refine alloc_row (o := ⟨some 4, _, _, _, _, _⟩) rfl _ rfl _ SZ.out ?_); intro w3 hr3 hb3 hz3; have Z3 := Lib.hid hr3; have L2 := Lib.hid (show w1.heap.size < w2.heap.size from R2.out.lt); have S3 := Lib.hid (S2.out.below hb3 S2.out.lt); have R3 := Lib.hid (R2.out.below hb3 R2.out.lt); have B3 := Lib.hid (B2.out.trans (hb3.mono B2.out.size)); have L3 := Lib.hid (show w2.heap.size < w3.heap.size from hr3.lt); clear hr3 hb3 hz3)
    | ((with_reducible refine load_row (o := ⟨some 8, _, _, _, _, _⟩) rfl _ _ rfl w.heap.size ?_ _ s.cells _ S3.out Try.underlying25 rfl ?_ ?_); (focus go_simp); (focus (exact SS.out)))
    | (go_at_call 50; (with_reducible refine (scopied s d L w3 ?_ hsn hsl hbig).mono ?_); (focus (exact H.out.mono B3.out)); rintro x w4 ⟨ca, cc, g, L', rfl, hrd, hgb, hrow, hfit, hpe, hb⟩; have D4 := Lib.hid hrd; have GB := Lib.hid hgb; have G4 := Lib.hid hrow; have F4 := Lib.hid hfit; have PE := Lib.hid hpe; have S4 := Lib.hid (S3.out.below hb S3.out.lt); have R4 := Lib.hid (R3.out.below hb R3.out.lt); have Z4 := Lib.hid (Z3.out.below hb Z3.out.lt); have B4 := Lib.hid (B3.out.trans (hb.mono B3.out.size)); clear hrd hgb hrow hfit hpe hb)
    | ((with_reducible refine alloc_row (o := ⟨some 6, _, _, _, _, _⟩) rfl _ rfl _ SZ.out ?_); intro w5 hr hb hz; have E5 := Lib.hid hr; have L4 := Lib.hid (show g < w4.heap.size ∧ w2.heap.size < w4.heap.size from ⟨G4.out.lt, Z4.out.lt⟩); have D5 := Lib.hid (D4.out.mono hb); have G5 := Lib.hid (G4.out.below hb G4.out.lt); have F5 := Lib.hid (fun p hp => (F4.out p hp).mono hb); have S5 := Lib.hid (S4.out.below hb S4.out.lt); have R5 := Lib.hid (R4.out.below hb R4.out.lt); have Z5 := Lib.hid (Z4.out.below hb Z4.out.lt); have B5 := Lib.hid (B4.out.trans (hb.mono B4.out.size)); clear hr hb hz)
    | ((with_reducible refine store_row (o := ⟨none, _, _, _, _, _⟩) rfl _ (.tmp 6) _ rfl w4.heap.size (Sv.cells ⟨s.t, s.v, s.b, s.bt, s.f, ca, s.n, cc, some ⟨g, 0, none⟩, s.en, s.en⟩) ?_ ?_ 25 _ E5.out ?_ ?_ ?_ ?_); (focus go_simp); (focus (first | (go_simp; done) | (go_simp; rfl))); (focus (exact SS.out)); (focus rfl); (focus (exact sv_one _)); intro w6 hr hu; have E6 := Lib.hid hr; have D6 := Lib.hid (D5.out.put E5.out (NB_sv svZ) hu); have G6 := Lib.hid (G5.out.upd hu (by have := L4.out; omega)); have F6 := Lib.hid (fun p hp => EnF.put (F5.out p hp) E5.out (NB_sv svZ) hu); have S6 := Lib.hid (S5.out.upd hu (by have := L4.out; have := L2.out; have := L1.out; omega)); have R6 := Lib.hid (R5.out.upd hu (by have := L4.out; have := L2.out; omega)); have Z6 := Lib.hid (Z5.out.upd hu (by have := L4.out; omega)); have B6 := Lib.hid (B5.out.trans (hu.below B4.out.size)); clear hr hu)
    | ((with_reducible refine load_row (o := ⟨some 10, _, _, _, _, _⟩) rfl _ _ rfl w1.heap.size ?_ _ r.cells _ R6.out Try.underlying29 rfl ?_ ?_); (focus go_simp); (focus (exact RS.out)))
    | (go_at_call 51; (with_reducible refine (rcheck r l p w6 ?_ ?_).mono ?_); (focus (exact HRE.out.mono B6.out)); (focus (exact HRS.out.mono B6.out)); rw [HCK.out]; rintro x w7 ⟨rfl, hb⟩; have E7 := Lib.hid (E6.out.below hb E6.out.lt); have D7 := Lib.hid (D6.out.mono hb); have G7 := Lib.hid (G6.out.below hb G6.out.lt); have F7 := Lib.hid (fun p hp => (F6.out p hp).mono hb); have S7 := Lib.hid (S6.out.below hb S6.out.lt); have R7 := Lib.hid (R6.out.below hb R6.out.lt); have Z7 := Lib.hid (Z6.out.below hb Z6.out.lt); have B7 := Lib.hid (B6.out.trans (hb.mono B6.out.size)); clear hb)
    | ((with_reducible refine load_row (o := ⟨some 16, _, _, _, _, _⟩) rfl _ _ rfl w.heap.size ?_ _ s.cells _ S7.out Try.underlying25 rfl ?_ ?_); (focus go_simp); (focus (exact SS.out)))
    | ((with_reducible refine load_row (o := ⟨some 17, _, _, _, _, _⟩) rfl _ _ rfl w1.heap.size ?_ _ r.cells _ R7.out Try.underlying29 rfl ?_ ?_); (focus go_simp); (focus (exact RS.out)))
    | (go_at_call 52; (with_reducible refine (rfollows s d L r w7 ?_ h3 hk).mono ?_); (focus (exact H.out.mono B7.out)); rw [HFO.out]; rintro x w8 ⟨rfl, hb⟩; have E8 := Lib.hid (E7.out.below hb E7.out.lt); have D8 := Lib.hid (D7.out.mono hb); have G8 := Lib.hid (G7.out.below hb G7.out.lt); have F8 := Lib.hid (fun p hp => (F7.out p hp).mono hb); have R8 := Lib.hid (R7.out.below hb R7.out.lt); have Z8 := Lib.hid (Z7.out.below hb Z7.out.lt); have B8 := Lib.hid (B7.out.trans (hb.mono B7.out.size)); clear hb)
    | ((with_reducible refine load_row (o := ⟨some 20, _, _, _, _, _⟩) rfl _ _ rfl w4.heap.size ?_ _ (Sv.cells ⟨s.t, s.v, s.b, s.bt, s.f, ca, s.n, cc, some ⟨g, 0, none⟩, s.en, s.en⟩) _ E8.out Try.underlying25 rfl ?_ ?_); (focus go_simp); (focus (exact SS.out)))
    | ((with_reducible refine store_row (o := ⟨none, _, _, _, _, _⟩) rfl _ (.tmp 4) _ rfl w2.heap.size (Sv.cells ⟨s.t, s.v, s.b, s.bt, s.f, ca, s.n, cc, some ⟨g, 0, none⟩, s.en, s.en⟩) ?_ ?_ 25 _ Z8.out ?_ ?_ ?_ ?_); (focus go_simp); (focus (first | (go_simp; done) | (go_simp; rfl))); (focus (exact SS.out)); (focus rfl); (focus (exact sv_one _)); intro wz hr hu; have Ez := Lib.hid hr; have Dz := Lib.hid (D8.out.put Z8.out (NB_sv svZ) hu); have Gz := Lib.hid (G8.out.upd hu (by have := GB.out; have := L3.out; omega)); have Fz := Lib.hid (fun p hp => EnF.put (F8.out p hp) Z8.out (NB_sv svZ) hu); have Bz := Lib.hid (B8.out.trans (hu.below B2.out.size)); clear hr hu))
  have hlen : L'.length = s.en := by have := congrArg List.length PE.out; simp at this; rw [this]; exact HLN.out
  exact bodyPost_ret (results_row_tmp rfl _ _ w2.heap.size 25 _ _ _ (by go_simp) Ez.out Try.underlying25 rfl SS.out) rfl ⟨⟨s.t, s.v, s.b, s.bt, s.f, ca, s.n, cc, some ⟨g, 0, none⟩, s.en, s.en⟩, L', rfl, ⟨Dz.out, ⟨g, L'.map (·.1), rfl, Nat.le_trans B3.out.size GB.out, Gz.out, by rw [List.length_map]; exact hlen, Nat.le_refl _, List.take_of_length_le (by rw [List.length_map, hlen]; exact Nat.le_refl _)⟩, Fz.out, hsl⟩, rfl, rfl, rfl, rfl, rfl, rfl, rfl, PE.out, Bz.out⟩
theorem filter_pe {L L' : List (En × List UInt8)} (f : Int → Bool) (h : L'.map pe = L.map pe) : (L'.filter (fun p => f p.1.ix)).map pe = (L.filter (fun p => f p.1.ix)).map pe := by
  have h1 : ∀ M : List (En × List UInt8), (M.filter (fun p => f p.1.ix)).map pe = (M.map pe).filter (fun q => f q.1) := by
    intro M
    induction M with
    | nil => rfl
    | cons x M ih =>
      by_cases hx : f x.1.ix = true
      · rw [List.filter_cons_of_pos (by simpa using hx), List.map_cons, List.map_cons, List.filter_cons_of_pos (by simpa [pe] using hx), ih]
      · rw [List.filter_cons_of_neg (by simpa using hx), List.map_cons, List.filter_cons_of_neg (by simpa [pe] using hx), ih]
  rw [h1, h1, h]
set_option maxRecDepth 100000 in
set_option maxHeartbeats 8000000 in
theorem rapp4 (s : Sv) (d : List UInt8) (L : List (En × List UInt8)) (r : Rc) (l p : List UInt8) (w : World) (h : SvF w s d L) (hr : RcF w r l p) (hsn : s.n ≤ 140737488355000) (hsl : s.en ≤ 1000000) (hbig : ∀ p ∈ L, p.1.n ≤ 140737488355000) (hck : chkR r l p = 0) (h3 : r.k = 3 → 1 ≤ r.e.ix ∧ r.e.ix ≤ 2147483648) (hk4 : r.k = 4) (hfo : follV s.b L r = true) :
    Calls Try.prog 12 #[.agg s.cells.toArray, .agg r.cells.toArray] w fun x w' => ∃ s' L', x = .returned (.tuple #[.agg (Sv.cells s').toArray, .int .i64 0]) ∧ SvO w' w.heap.size s' d L' ∧ s'.t = s.t ∧ s'.v = s.v ∧ s'.b = s.b ∧ s'.bt = s.bt ∧ s'.f = s.f ∧ s'.n = s.n ∧ L'.map pe = (L.filter (fun p => !decide (r.i ≤ p.1.ix))).map pe ∧ Below w.heap.size w w' := by
  have H := Lib.hid h
  have HRE := Lib.hid hr.e.rd
  have HRS := Lib.hid hr.rd
  have HCK := Lib.hid hck
  have HLN := Lib.hid h.es.hlen
  have SZ := Lib.hid sv_zero
  have SS := Lib.hid sv_size
  have RS := Lib.hid rc_size
  have HFO := Lib.hid hfo
  have hk : r.k = 1 ∨ r.k = 2 ∨ r.k = 3 ∨ r.k = 4 := .inr (.inr (.inr hk4))
  have k1 : (r.k == 1) = false := by rw [hk4]; decide
  have k2 : (r.k == 2) = false := by rw [hk4]; decide
  have k3 : (r.k == 3) = false := by rw [hk4]; decide
  have k4 : (r.k == 4) = true := by rw [hk4]; decide
  clear hfo
  clear h hr hck
  go_enter Try.func12, Try.ntmps12
  go_wp2_with (first
    | (with_reducible refine box_row (o := ⟨some 2, _, _, _, _, _⟩) rfl _ _ rfl s.cells rfl ?_; intro w1 hr1 hb1 hz1; have S1 := Lib.hid hr1; have B1 := Lib.hid hb1; clear hr1 hb1 hz1)
    | (with_reducible refine box_row (o := ⟨some 3, _, _, _, _, _⟩) rfl _ _ rfl r.cells rfl ?_; intro w2 hr2 hb2 hz2; have R2 := Lib.hid hr2; have S2 := Lib.hid (S1.out.below hb2 S1.out.lt); have L1 := Lib.hid (show w.heap.size < w1.heap.size from S1.out.lt); have B2 := Lib.hid (B1.out.trans (hb2.mono B1.out.size)); clear hr2 hb2 hz2)
    | ((with_reducible refine alloc_row (o := ⟨some 4, _, _, _, _, _⟩) rfl _ rfl _ SZ.out ?_); intro w3 hr3 hb3 hz3; have Z3 := Lib.hid hr3; have L2 := Lib.hid (show w1.heap.size < w2.heap.size from R2.out.lt); have S3 := Lib.hid (S2.out.below hb3 S2.out.lt); have R3 := Lib.hid (R2.out.below hb3 R2.out.lt); have B3 := Lib.hid (B2.out.trans (hb3.mono B2.out.size)); have L3 := Lib.hid (show w2.heap.size < w3.heap.size from hr3.lt); clear hr3 hb3 hz3)
    | ((with_reducible refine load_row (o := ⟨some 8, _, _, _, _, _⟩) rfl _ _ rfl w.heap.size ?_ _ s.cells _ S3.out Try.underlying25 rfl ?_ ?_); (focus go_simp); (focus (exact SS.out)))
    | (go_at_call 50; (with_reducible refine (scopied s d L w3 ?_ hsn hsl hbig).mono ?_); (focus (exact H.out.mono B3.out)); rintro x w4 ⟨ca, cc, g, L', rfl, hrd, hgb, hrow, hfit, hpe, hb⟩; have D4 := Lib.hid hrd; have GB := Lib.hid hgb; have G4 := Lib.hid hrow; have F4 := Lib.hid hfit; have PE := Lib.hid hpe; have S4 := Lib.hid (S3.out.below hb S3.out.lt); have R4 := Lib.hid (R3.out.below hb R3.out.lt); have Z4 := Lib.hid (Z3.out.below hb Z3.out.lt); have B4 := Lib.hid (B3.out.trans (hb.mono B3.out.size)); clear hrd hgb hrow hfit hpe hb)
    | ((with_reducible refine alloc_row (o := ⟨some 6, _, _, _, _, _⟩) rfl _ rfl _ SZ.out ?_); intro w5 hr hb hz; have E5 := Lib.hid hr; have L4 := Lib.hid (show g < w4.heap.size ∧ w2.heap.size < w4.heap.size from ⟨G4.out.lt, Z4.out.lt⟩); have D5 := Lib.hid (D4.out.mono hb); have G5 := Lib.hid (G4.out.below hb G4.out.lt); have F5 := Lib.hid (fun p hp => (F4.out p hp).mono hb); have S5 := Lib.hid (S4.out.below hb S4.out.lt); have R5 := Lib.hid (R4.out.below hb R4.out.lt); have Z5 := Lib.hid (Z4.out.below hb Z4.out.lt); have B5 := Lib.hid (B4.out.trans (hb.mono B4.out.size)); clear hr hb hz)
    | ((with_reducible refine store_row (o := ⟨none, _, _, _, _, _⟩) rfl _ (.tmp 6) _ rfl w4.heap.size (Sv.cells ⟨s.t, s.v, s.b, s.bt, s.f, ca, s.n, cc, some ⟨g, 0, none⟩, s.en, s.en⟩) ?_ ?_ 25 _ E5.out ?_ ?_ ?_ ?_); (focus go_simp); (focus (first | (go_simp; done) | (go_simp; rfl))); (focus (exact SS.out)); (focus rfl); (focus (exact sv_one _)); intro w6 hr hu; have E6 := Lib.hid hr; have D6 := Lib.hid (D5.out.put E5.out (NB_sv svZ) hu); have G6 := Lib.hid (G5.out.upd hu (by have := L4.out; omega)); have F6 := Lib.hid (fun p hp => EnF.put (F5.out p hp) E5.out (NB_sv svZ) hu); have S6 := Lib.hid (S5.out.upd hu (by have := L4.out; have := L2.out; have := L1.out; omega)); have R6 := Lib.hid (R5.out.upd hu (by have := L4.out; have := L2.out; omega)); have Z6 := Lib.hid (Z5.out.upd hu (by have := L4.out; omega)); have B6 := Lib.hid (B5.out.trans (hu.below B4.out.size)); clear hr hu)
    | ((with_reducible refine load_row (o := ⟨some 10, _, _, _, _, _⟩) rfl _ _ rfl w1.heap.size ?_ _ r.cells _ R6.out Try.underlying29 rfl ?_ ?_); (focus go_simp); (focus (exact RS.out)))
    | (go_at_call 51; (with_reducible refine (rcheck r l p w6 ?_ ?_).mono ?_); (focus (exact HRE.out.mono B6.out)); (focus (exact HRS.out.mono B6.out)); rw [HCK.out]; rintro x w7 ⟨rfl, hb⟩; have E7 := Lib.hid (E6.out.below hb E6.out.lt); have D7 := Lib.hid (D6.out.mono hb); have G7 := Lib.hid (G6.out.below hb G6.out.lt); have F7 := Lib.hid (fun p hp => (F6.out p hp).mono hb); have S7 := Lib.hid (S6.out.below hb S6.out.lt); have R7 := Lib.hid (R6.out.below hb R6.out.lt); have Z7 := Lib.hid (Z6.out.below hb Z6.out.lt); have B7 := Lib.hid (B6.out.trans (hb.mono B6.out.size)); clear hb)
    | ((with_reducible refine load_row (o := ⟨some 16, _, _, _, _, _⟩) rfl _ _ rfl w.heap.size ?_ _ s.cells _ S7.out Try.underlying25 rfl ?_ ?_); (focus go_simp); (focus (exact SS.out)))
    | ((with_reducible refine load_row (o := ⟨some 17, _, _, _, _, _⟩) rfl _ _ rfl w1.heap.size ?_ _ r.cells _ R7.out Try.underlying29 rfl ?_ ?_); (focus go_simp); (focus (exact RS.out)))
    | (go_at_call 52; (with_reducible refine (rfollows s d L r w7 ?_ h3 hk).mono ?_); (focus (exact H.out.mono B7.out)); rw [HFO.out]; rintro x w8 ⟨rfl, hb⟩; have E8 := Lib.hid (E7.out.below hb E7.out.lt); have D8 := Lib.hid (D7.out.mono hb); have G8 := Lib.hid (G7.out.below hb G7.out.lt); have F8 := Lib.hid (fun p hp => (F7.out p hp).mono hb); have R8 := Lib.hid (R7.out.below hb R7.out.lt); have Z8 := Lib.hid (Z7.out.below hb Z7.out.lt); have B8 := Lib.hid (B7.out.trans (hb.mono B7.out.size)); obtain ⟨d0, d1, d2, d3, d4, d5, d6, d7, d8, d9⟩ := R8.out.q10; obtain ⟨c0, c1, c2, c3, c4, c5, c6⟩ := E8.out.q7; clear hb)
    | (go_at_call 54; refine (rdelf2 r w1.heap.size g s.en (L'.map (·.1)) w8 R8.out G8.out (by rw [List.length_map]; have := congrArg List.length PE.out; simp at this; rw [this]; exact HLN.out) hsl (by have := GB.out; have := L2.out; have := L3.out; omega)).mono ?_; rintro x w9 ⟨m, R, rfl, hRl, hmn, hRt, hrow, hgw⟩; have HRL := Lib.hid hRl; have HMN := Lib.hid hmn; have HRT := Lib.hid hRt; have Ga := Lib.hid hrow; have Da := Lib.hid (D8.out.gwr G8.out (NB_flat _) hgw); have Fa := Lib.hid (fun p hp => (show EnF w9 p.1 p.2 from ⟨(F8.out p hp).ix, (F8.out p hp).tm, (F8.out p hp).kd, (F8.out p hp).rd.gwr G8.out (NB_flat _) hgw⟩)); have Ea := Lib.hid (E8.out.gw hgw (by have := L4.out; omega)); have Za := Lib.hid (Z8.out.gw hgw (by have := GB.out; have := L3.out; omega)); have Ba := Lib.hid (B8.out.trans (hgw.below (Nat.le_trans B3.out.size GB.out) B8.out.size)); clear hRl hmn hRt hrow hgw c0 c1 c2 c3 c4 c5 c6 d0 d1 d2 d3 d4 d5 d6 d7 d8 d9; have U := Lib.hid (Upd.setCell w9 w4.heap.size 6 (.slice (some ⟨g, 0, none⟩) m s.en)); have Eb := Lib.hid (show Row (w9.setCell ⟨w4.heap.size, 6, none⟩ (.slice (some ⟨g, 0, none⟩) m s.en)) w4.heap.size 25 (Sv.cells ⟨s.t, s.v, s.b, s.bt, s.f, ca, s.n, cc, some ⟨g, 0, none⟩, m, s.en⟩) from Ea.out.setV 6 (.slice (some ⟨g, 0, none⟩) m s.en)); have Db := Lib.hid (Da.out.put Ea.out (NB_sv ⟨s.t, s.v, s.b, s.bt, s.f, ca, s.n, cc, some ⟨g, 0, none⟩, s.en, s.en⟩) U.out); have Fb := Lib.hid (fun p hp => EnF.put (Fa.out p hp) Ea.out (NB_sv ⟨s.t, s.v, s.b, s.bt, s.f, ca, s.n, cc, some ⟨g, 0, none⟩, s.en, s.en⟩) U.out); have Gb := Lib.hid (Ga.out.upd U.out (by have := L4.out; omega)); have Zb := Lib.hid (Za.out.upd U.out (by have := L4.out; omega)); have Bb := Lib.hid (Ba.out.trans (U.out.below B4.out.size)); have f6 := Ea.out.frozen 6; obtain ⟨c0, c1, c2, c3, c4, c5, c6⟩ := Ea.out.q7)
    | ((with_reducible refine load_row (o := ⟨some 68, _, _, _, _, _⟩) rfl _ _ rfl w4.heap.size ?_ _ (Sv.cells ⟨s.t, s.v, s.b, s.bt, s.f, ca, s.n, cc, some ⟨g, 0, none⟩, m, s.en⟩) _ Eb.out Try.underlying25 rfl ?_ ?_); (focus go_simp); (focus (exact SS.out)))
    | ((with_reducible refine store_row (o := ⟨none, _, _, _, _, _⟩) rfl _ (.tmp 4) _ rfl w2.heap.size (Sv.cells ⟨s.t, s.v, s.b, s.bt, s.f, ca, s.n, cc, some ⟨g, 0, none⟩, m, s.en⟩) ?_ ?_ 25 _ Zb.out ?_ ?_ ?_ ?_); (focus go_simp); (focus (first | (go_simp; done) | (go_simp; rfl))); (focus (exact SS.out)); (focus rfl); (focus (exact sv_one _)); intro wz hr hu; have Ez := Lib.hid hr; have Dz := Lib.hid (Db.out.put Zb.out (NB_sv svZ) hu); have Gz := Lib.hid (Gb.out.upd hu (by have := GB.out; have := L3.out; omega)); have Fz := Lib.hid (fun p hp => EnF.put (Fb.out p hp) Zb.out (NB_sv svZ) hu); have Bz := Lib.hid (Bb.out.trans (hu.below B2.out.size)); clear hr hu))
  have hfl : (L'.map (·.1)).filter (fun e => !pr2 r e) = (L'.filter (fun p => !decide (r.i ≤ p.1.ix))).map (·.1) := by rw [List.filter_map]; rfl
  exact bodyPost_ret (results_row_tmp rfl _ _ w2.heap.size 25 _ _ _ (by go_simp) Ez.out Try.underlying25 rfl SS.out) rfl ⟨⟨s.t, s.v, s.b, s.bt, s.f, ca, s.n, cc, some ⟨g, 0, none⟩, m, s.en⟩, L'.filter (fun p => !decide (r.i ≤ p.1.ix)), rfl, ⟨Dz.out, ⟨g, R, rfl, Nat.le_trans B3.out.size GB.out, Gz.out, HRL.out, HMN.out, by rw [← hfl]; exact HRT.out⟩, fun p hp => Fz.out p ((List.mem_filter.1 hp).1), hsl⟩, rfl, rfl, rfl, rfl, rfl, rfl, filter_pe (fun x => !decide (r.i ≤ x)) PE.out, Bz.out⟩
set_option maxRecDepth 100000 in
set_option maxHeartbeats 8000000 in
theorem rapp2 (s : Sv) (d : List UInt8) (L : List (En × List UInt8)) (r : Rc) (l p : List UInt8) (w : World) (h : SvF w s d L) (hr : RcF w r l p) (hsn : s.n ≤ 140737488355000) (hsl : s.en ≤ 1000000) (hbig : ∀ p ∈ L, p.1.n ≤ 140737488355000) (hck : chkR r l p = 0) (h3 : r.k = 3 → 1 ≤ r.e.ix ∧ r.e.ix ≤ 2147483648) (hk2 : r.k = 2) (hfo : follV s.b L r = true) :
    Calls Try.prog 12 #[.agg s.cells.toArray, .agg r.cells.toArray] w fun x w' => ∃ s' L', x = .returned (.tuple #[.agg (Sv.cells s').toArray, .int .i64 0]) ∧ SvO w' w.heap.size s' d L' ∧ s'.t = r.t ∧ s'.v = r.v ∧ s'.b = s.b ∧ s'.bt = s.bt ∧ s'.f = s.f ∧ s'.n = s.n ∧ s'.en = s.en ∧ L'.map pe = L.map pe ∧ Below w.heap.size w w' := by
  have H := Lib.hid h
  have HRE := Lib.hid hr.e.rd
  have HRS := Lib.hid hr.rd
  have HCK := Lib.hid hck
  have HLN := Lib.hid h.es.hlen
  have SZ := Lib.hid sv_zero
  have SS := Lib.hid sv_size
  have RS := Lib.hid rc_size
  have HFO := Lib.hid hfo
  have hk : r.k = 1 ∨ r.k = 2 ∨ r.k = 3 ∨ r.k = 4 := .inr (.inl hk2)
  have k1 : (r.k == 1) = false := by rw [hk2]; decide
  have k2 : (r.k == 2) = true := by rw [hk2]; decide
  clear hfo
  clear h hr hck
  go_enter Try.func12, Try.ntmps12
  go_wp2_with (first
    | (with_reducible refine box_row (o := ⟨some 2, _, _, _, _, _⟩) rfl _ _ rfl s.cells rfl ?_; intro w1 hr1 hb1 hz1; have S1 := Lib.hid hr1; have B1 := Lib.hid hb1; clear hr1 hb1 hz1)
    | (with_reducible refine box_row (o := ⟨some 3, _, _, _, _, _⟩) rfl _ _ rfl r.cells rfl ?_; intro w2 hr2 hb2 hz2; have R2 := Lib.hid hr2; have S2 := Lib.hid (S1.out.below hb2 S1.out.lt); have L1 := Lib.hid (show w.heap.size < w1.heap.size from S1.out.lt); have B2 := Lib.hid (B1.out.trans (hb2.mono B1.out.size)); clear hr2 hb2 hz2)
    | ((with_reducible refine alloc_row (o := ⟨some 4, _, _, _, _, _⟩) rfl _ rfl _ SZ.out ?_); intro w3 hr3 hb3 hz3; have Z3 := Lib.hid hr3; have L2 := Lib.hid (show w1.heap.size < w2.heap.size from R2.out.lt); have S3 := Lib.hid (S2.out.below hb3 S2.out.lt); have R3 := Lib.hid (R2.out.below hb3 R2.out.lt); have B3 := Lib.hid (B2.out.trans (hb3.mono B2.out.size)); have L3 := Lib.hid (show w2.heap.size < w3.heap.size from hr3.lt); clear hr3 hb3 hz3)
    | ((with_reducible refine load_row (o := ⟨some 8, _, _, _, _, _⟩) rfl _ _ rfl w.heap.size ?_ _ s.cells _ S3.out Try.underlying25 rfl ?_ ?_); (focus go_simp); (focus (exact SS.out)))
    | (go_at_call 50; (with_reducible refine (scopied s d L w3 ?_ hsn hsl hbig).mono ?_); (focus (exact H.out.mono B3.out)); rintro x w4 ⟨ca, cc, g, L', rfl, hrd, hgb, hrow, hfit, hpe, hb⟩; have D4 := Lib.hid hrd; have GB := Lib.hid hgb; have G4 := Lib.hid hrow; have F4 := Lib.hid hfit; have PE := Lib.hid hpe; have S4 := Lib.hid (S3.out.below hb S3.out.lt); have R4 := Lib.hid (R3.out.below hb R3.out.lt); have Z4 := Lib.hid (Z3.out.below hb Z3.out.lt); have B4 := Lib.hid (B3.out.trans (hb.mono B3.out.size)); clear hrd hgb hrow hfit hpe hb)
    | ((with_reducible refine alloc_row (o := ⟨some 6, _, _, _, _, _⟩) rfl _ rfl _ SZ.out ?_); intro w5 hr hb hz; have E5 := Lib.hid hr; have L4 := Lib.hid (show g < w4.heap.size ∧ w2.heap.size < w4.heap.size from ⟨G4.out.lt, Z4.out.lt⟩); have D5 := Lib.hid (D4.out.mono hb); have G5 := Lib.hid (G4.out.below hb G4.out.lt); have F5 := Lib.hid (fun p hp => (F4.out p hp).mono hb); have S5 := Lib.hid (S4.out.below hb S4.out.lt); have R5 := Lib.hid (R4.out.below hb R4.out.lt); have Z5 := Lib.hid (Z4.out.below hb Z4.out.lt); have B5 := Lib.hid (B4.out.trans (hb.mono B4.out.size)); clear hr hb hz)
    | ((with_reducible refine store_row (o := ⟨none, _, _, _, _, _⟩) rfl _ (.tmp 6) _ rfl w4.heap.size (Sv.cells ⟨s.t, s.v, s.b, s.bt, s.f, ca, s.n, cc, some ⟨g, 0, none⟩, s.en, s.en⟩) ?_ ?_ 25 _ E5.out ?_ ?_ ?_ ?_); (focus go_simp); (focus (first | (go_simp; done) | (go_simp; rfl))); (focus (exact SS.out)); (focus rfl); (focus (exact sv_one _)); intro w6 hr hu; have E6 := Lib.hid hr; have D6 := Lib.hid (D5.out.put E5.out (NB_sv svZ) hu); have G6 := Lib.hid (G5.out.upd hu (by have := L4.out; omega)); have F6 := Lib.hid (fun p hp => EnF.put (F5.out p hp) E5.out (NB_sv svZ) hu); have S6 := Lib.hid (S5.out.upd hu (by have := L4.out; have := L2.out; have := L1.out; omega)); have R6 := Lib.hid (R5.out.upd hu (by have := L4.out; have := L2.out; omega)); have Z6 := Lib.hid (Z5.out.upd hu (by have := L4.out; omega)); have B6 := Lib.hid (B5.out.trans (hu.below B4.out.size)); clear hr hu)
    | ((with_reducible refine load_row (o := ⟨some 10, _, _, _, _, _⟩) rfl _ _ rfl w1.heap.size ?_ _ r.cells _ R6.out Try.underlying29 rfl ?_ ?_); (focus go_simp); (focus (exact RS.out)))
    | (go_at_call 51; (with_reducible refine (rcheck r l p w6 ?_ ?_).mono ?_); (focus (exact HRE.out.mono B6.out)); (focus (exact HRS.out.mono B6.out)); rw [HCK.out]; rintro x w7 ⟨rfl, hb⟩; have E7 := Lib.hid (E6.out.below hb E6.out.lt); have D7 := Lib.hid (D6.out.mono hb); have G7 := Lib.hid (G6.out.below hb G6.out.lt); have F7 := Lib.hid (fun p hp => (F6.out p hp).mono hb); have S7 := Lib.hid (S6.out.below hb S6.out.lt); have R7 := Lib.hid (R6.out.below hb R6.out.lt); have Z7 := Lib.hid (Z6.out.below hb Z6.out.lt); have B7 := Lib.hid (B6.out.trans (hb.mono B6.out.size)); clear hb)
    | ((with_reducible refine load_row (o := ⟨some 16, _, _, _, _, _⟩) rfl _ _ rfl w.heap.size ?_ _ s.cells _ S7.out Try.underlying25 rfl ?_ ?_); (focus go_simp); (focus (exact SS.out)))
    | ((with_reducible refine load_row (o := ⟨some 17, _, _, _, _, _⟩) rfl _ _ rfl w1.heap.size ?_ _ r.cells _ R7.out Try.underlying29 rfl ?_ ?_); (focus go_simp); (focus (exact RS.out)))
    | (go_at_call 52; (with_reducible refine (rfollows s d L r w7 ?_ h3 hk).mono ?_); (focus (exact H.out.mono B7.out)); rw [HFO.out]; rintro x w8 ⟨rfl, hb⟩; have E8 := Lib.hid (E7.out.below hb E7.out.lt); have D8 := Lib.hid (D7.out.mono hb); have G8 := Lib.hid (G7.out.below hb G7.out.lt); have F8 := Lib.hid (fun p hp => (F7.out p hp).mono hb); have R8 := Lib.hid (R7.out.below hb R7.out.lt); have Z8 := Lib.hid (Z7.out.below hb Z7.out.lt); have B8 := Lib.hid (B7.out.trans (hb.mono B7.out.size)); obtain ⟨d0, d1, d2, d3, d4, d5, d6, d7, d8, d9⟩ := R8.out.q10; obtain ⟨c0, c1, c2, c3, c4, c5, c6⟩ := E8.out.q7; have hfz := fun i => E8.out.frozen i; clear hb))
  have hne : w1.heap.size ≠ w4.heap.size := by have := L4.out; have := L2.out; omega
  have hne2 : w4.heap.size ≠ w1.heap.size := hne.symm
  go_region
  have U := Lib.hid ((Upd.setCell w8 w4.heap.size 0 (.int .i64 r.t)).trans (Upd.setCell _ _ 1 (.int .i64 r.v)))
  have Ea := Lib.hid (show Row ((w8.setCell ⟨w4.heap.size, 0, none⟩ (.int .i64 r.t)).setCell ⟨w4.heap.size, 1, none⟩ (.int .i64 r.v)) w4.heap.size 25 (Sv.cells ⟨r.t, r.v, s.b, s.bt, s.f, ca, s.n, cc, some ⟨g, 0, none⟩, s.en, s.en⟩) from (E8.out.setV 0 (.int .i64 r.t)).setV 1 (.int .i64 r.v))
  have Da := Lib.hid (D8.out.put E8.out (NB_sv ⟨s.t, s.v, s.b, s.bt, s.f, ca, s.n, cc, some ⟨g, 0, none⟩, s.en, s.en⟩) U.out)
  have Fa := Lib.hid (fun p hp => EnF.put (F8.out p hp) E8.out (NB_sv ⟨s.t, s.v, s.b, s.bt, s.f, ca, s.n, cc, some ⟨g, 0, none⟩, s.en, s.en⟩) U.out)
  have Ga := Lib.hid (G8.out.upd U.out (by have := L4.out; omega))
  have Za := Lib.hid (Z8.out.upd U.out (by have := L4.out; omega))
  have Ba := Lib.hid (B8.out.trans (U.out.below B4.out.size))
  clear c0 c1 c2 c3 c4 c5 c6 d0 d1 d2 d3 d4 d5 d6 d7 d8 d9 hfz U
  obtain ⟨wa, hwa⟩ : ∃ x, (w8.setCell ⟨w4.heap.size, 0, none⟩ (.int .i64 r.t)).setCell ⟨w4.heap.size, 1, none⟩ (.int .i64 r.v) = x := ⟨_, rfl⟩
  rw [hwa] at Ea Da Fa Ga Za Ba ⊢
  clear hwa
  have hb := (Below.refl wa.heap.size wa).drew
  obtain ⟨wb, hwb⟩ : ∃ x, wa.drew = x := ⟨_, rfl⟩
  rw [hwb] at hb ⊢
  clear hwb
  have Eb := Lib.hid (Ea.out.below hb Ea.out.lt)
  have Db := Lib.hid (Da.out.mono hb)
  have Fb := Lib.hid (fun p hp => (Fa.out p hp).mono hb)
  have Gb := Lib.hid (Ga.out.below hb Ga.out.lt)
  have Zb := Lib.hid (Za.out.below hb Za.out.lt)
  have Bb := Lib.hid (Ba.out.trans (hb.mono Ba.out.size))
  clear hb
  go_wp2_with (first
    | ((with_reducible refine load_row (o := ⟨some 68, _, _, _, _, _⟩) rfl _ _ rfl w4.heap.size ?_ _ (Sv.cells ⟨r.t, r.v, s.b, s.bt, s.f, ca, s.n, cc, some ⟨g, 0, none⟩, s.en, s.en⟩) _ Eb.out Try.underlying25 rfl ?_ ?_); (focus go_simp); (focus (exact SS.out)))
    | ((with_reducible refine store_row (o := ⟨none, _, _, _, _, _⟩) rfl _ (.tmp 4) _ rfl w2.heap.size (Sv.cells ⟨r.t, r.v, s.b, s.bt, s.f, ca, s.n, cc, some ⟨g, 0, none⟩, s.en, s.en⟩) ?_ ?_ 25 _ Zb.out ?_ ?_ ?_ ?_); (focus go_simp); (focus (first | (go_simp; done) | (go_simp; rfl))); (focus (exact SS.out)); (focus rfl); (focus (exact sv_one _)); intro wz hr hu; have Ez := Lib.hid hr; have Dz := Lib.hid (Db.out.put Zb.out (NB_sv svZ) hu); have Gz := Lib.hid (Gb.out.upd hu (by have := GB.out; have := L3.out; omega)); have Fz := Lib.hid (fun p hp => EnF.put (Fb.out p hp) Zb.out (NB_sv svZ) hu); have Bz := Lib.hid (Bb.out.trans (hu.below B2.out.size)); clear hr hu))
  have hlen : L'.length = s.en := by have := congrArg List.length PE.out; simp at this; rw [this]; exact HLN.out
  exact bodyPost_ret (results_row_tmp rfl _ _ w2.heap.size 25 _ _ _ (by go_simp) Ez.out Try.underlying25 rfl SS.out) rfl ⟨⟨r.t, r.v, s.b, s.bt, s.f, ca, s.n, cc, some ⟨g, 0, none⟩, s.en, s.en⟩, L', rfl, ⟨Dz.out, ⟨g, L'.map (·.1), rfl, Nat.le_trans B3.out.size GB.out, Gz.out, by rw [List.length_map]; exact hlen, Nat.le_refl _, List.take_of_length_le (by rw [List.length_map, hlen]; exact Nat.le_refl _)⟩, Fz.out, hsl⟩, rfl, rfl, rfl, rfl, rfl, rfl, rfl, PE.out, Bz.out⟩
end Go.Proofs.Ytbcaphkbjeejhaa.W
