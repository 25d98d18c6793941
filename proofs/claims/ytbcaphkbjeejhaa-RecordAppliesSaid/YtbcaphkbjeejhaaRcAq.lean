/- LAYER 11 (record): Apply of the program, an entry and a base. -/
import Derived.Test.YtbcaphkbjeejhaaRcAp
import Derived.Test.YtbcaphkbjeejhaaEnO
import Derived.Test.YtbcaphkbjeejhaaSt
set_option linter.unusedSimpArgs false
set_option linter.unusedVariables false
namespace Go.Proofs.Ytbcaphkbjeejhaa.W
open Go Go.ChangeShapes Go.WideShapes Go.ChangeAt Go.RowKit

theorem infoEns : (Try.prog.info? 23).map (·.size) = some 1 := by kernel_rfl
theorem infoInt1 : (Try.prog.info? 3).map (·.size) = some 1 := by kernel_rfl
theorem infoBytes1 : (Try.prog.info? 22).map (·.size) = some 1 := by kernel_rfl
set_option maxRecDepth 100000 in
set_option maxHeartbeats 8000000 in
theorem rapp3 (s : Sv) (d : List UInt8) (L : List (En × List UInt8)) (r : Rc) (l p : List UInt8) (w : World) (h : SvF w s d L) (hr : RcF w r l p) (hsn : s.n ≤ 140737488355000) (hsl : s.en ≤ 1000000) (hbig : ∀ p ∈ L, p.1.n ≤ 140737488355000) (hck : chkR r l p = 0) (h3 : r.k = 3 → 1 ≤ r.e.ix ∧ r.e.ix ≤ 2147483648) (hk3 : r.k = 3) (hen : r.e.n ≤ 140737488355000) (hfo : follV s.b L r = true) :
    Calls Try.prog 12 #[.agg s.cells.toArray, .agg r.cells.toArray] w fun x w' => ∃ s' L', x = .returned (.tuple #[.agg (Sv.cells s').toArray, .int .i64 0]) ∧ Rd w' s'.a s'.n s'.c d ∧ s'.t = s.t ∧ s'.v = s.v ∧ s'.b = s.b ∧ s'.bt = s.bt ∧ s'.f = s.f ∧ s'.n = s.n ∧ s'.en = s.en + 1 ∧ Ents w' s'.ea s'.en s'.ec L' ∧ L'.map pe = L.map pe ++ [(r.e.ix, r.e.tm, r.e.kd, l)] ∧ (∀ b off, s'.ea = some ⟨b, off, none⟩ → w.heap.size ≤ b) ∧ Below w.heap.size w w' := by
  have H := Lib.hid h
  have HRE := Lib.hid hr.e.rd
  have HRS := Lib.hid hr.rd
  have HCK := Lib.hid hck
  have HLN := Lib.hid h.es.hlen
  have SZ := Lib.hid sv_zero
  have SS := Lib.hid sv_size
  have RS := Lib.hid rc_size
  have HFO := Lib.hid hfo
  have HREF := Lib.hid hr.e
  have hk : r.k = 1 ∨ r.k = 2 ∨ r.k = 3 ∨ r.k = 4 := .inr (.inr (.inl hk3))
  have k1 : (r.k == 1) = false := by rw [hk3]; decide
  have k2 : (r.k == 2) = false := by rw [hk3]; decide
  have k3 : (r.k == 3) = true := by rw [hk3]; decide
  clear hfo
  clear h hr hck
  go_enter Try.func12, Try.ntmps12
  go_wp2_with (first
    | (with_reducible refine box_row (o := ⟨some 2, _, _, _, _, _⟩) rfl _ _ rfl s.cells rfl ?_; intro w1 hr1 hb1 hz1; have S1 := Lib.hid hr1; have B1 := Lib.hid hb1; clear hr1 hb1 hz1)
    | (with_reducible refine box_row (o := ⟨some 3, _, _, _, _, _⟩) rfl _ _ rfl r.cells rfl ?_; intro w2 hr2 hb2 hz2; have R2 := Lib.hid hr2; have S2 := Lib.hid (S1.out.below hb2 S1.out.lt); have L1 := Lib.hid (show w.heap.size < w1.heap.size from S1.out.lt); have B2 := Lib.hid (B1.out.trans (hb2.mono B1.out.size)); clear hr2 hb2 hz2)
    | ((with_reducible refine alloc_row (o := ⟨some 4, _, _, _, _, _⟩) rfl _ rfl _ SZ.out ?_); intro w3 hr3 hb3 hz3; have Z3 := Lib.hid hr3; have L2 := Lib.hid (show w1.heap.size < w2.heap.size from R2.out.lt); have S3 := Lib.hid (S2.out.below hb3 S2.out.lt); have R3 := Lib.hid (R2.out.below hb3 R2.out.lt); have B3 := Lib.hid (B2.out.trans (hb3.mono B2.out.size)); have L3 := Lib.hid (show w2.heap.size < w3.heap.size from hr3.lt); clear hr3 hb3 hz3)
    | ((with_reducible refine load_row (o := ⟨some 8, _, _, _, _, _⟩) rfl _ _ rfl w.heap.size ?_ _ s.cells _ S3.out Try.underlying25 rfl ?_ ?_); (focus go_simp); (focus (exact SS.out)))
    | (go_at_call 50; (with_reducible refine (scopied s d L w3 ?_ hsn hsl hbig).mono ?_); (focus (exact H.out.mono B3.out)); rintro x w4 ⟨ca, cc, g, L', rfl, hrd, hgb, hrow, hfit, hpe, hb⟩; have D4 := Lib.hid hrd; have GB := Lib.hid hgb; have G4 := Lib.hid hrow; have F4 := Lib.hid hfit; have PE := Lib.hid hpe; have S4 := Lib.hid (S3.out.below hb S3.out.lt); have R4 := Lib.hid (R3.out.below hb R3.out.lt); have Z4 := Lib.hid (Z3.out.below hb Z3.out.lt); have B4 := Lib.hid (B3.out.trans (hb.mono B3.out.size)); clear hrd hgb hrow hfit hpe hb)
    | ((with_reducible refine alloc_row (o := ⟨some 6, _, _, _, _, _⟩) rfl _ rfl _ SZ.out ?_); intro w5 hr hb hz; have E5 := Lib.hid hr; have L4 := Lib.hid (show g < w4.heap.size ∧ w2.heap.size < w4.heap.size from ⟨G4.out.lt, Z4.out.lt⟩); have D5 := Lib.hid (D4.out.mono hb); have G5 := Lib.hid (G4.out.below hb G4.out.lt); have F5 := Lib.hid (fun p hp => (F4.out p hp).mono hb); have S5 := Lib.hid (S4.out.below hb S4.out.lt); have R5 := Lib.hid (R4.out.below hb R4.out.lt); have Z5 := Lib.hid (Z4.out.below hb Z4.out.lt); have B5 := Lib.hid (B4.out.trans (hb.mono B4.out.size)); clear hr hb hz)
    | ((with_reducible refine store_row (o := ⟨none, _, _, _, _, _⟩) rfl _ (.tmp 6) _ rfl w4.heap.size (Sv.cells ⟨s.t, s.v, s.b, s.bt, s.f, ca, s.n, cc, some ⟨g, 0, none⟩, s.en, s.en⟩) ?_ ?_ 25 _ E5.out ?_ ?_ ?_ ?_); (focus go_simp); (focus (first | (go_simp; done) | (go_simp; rfl))); (focus (exact SS.out)); (focus rfl); (focus (exact sv_one _)); intro w6 hr hu; have E6 := Lib.hid hr; have D6 := Lib.hid (D5.out.put E5.out (NB_sv svZ) hu); have G6 := Lib.hid (G5.out.upd hu (by have := L4.out; omega)); have F6 := Lib.hid (fun p hp => EnF.put (F5.out p hp) E5.out (NB_sv svZ) hu); have S6 := Lib.hid (S5.out.upd hu (by have := L4.out; have := L2.out; have := L1.out; omega)); have R6 := Lib.hid (R5.out.upd hu (by have := L4.out; have := L2.out; omega)); have Z6 := Lib.hid (Z5.out.upd hu (by have := L4.out; omega)); have B6 := Lib.hid (B5.out.trans (hu.below B4.out.size)); clear hr hu)
    | ((with_reducible refine load_row (o := ⟨some 10, _, _, _, _, _⟩) rfl _ _ rfl w1.heap.size ?_ _ r.cells _ R6.out Try.underlying29 rfl ?_ ?_); (focus go_simp); (focus (exact RS.out)))
    | (go_at_call 51; (with_reducible refine (rcheck r l p w6 ?_ ?_).mono ?_); (focus (exact HRE.out.mono B6.out)); (focus (exact HRS.out.mono B6.out)); rw [HCK.out]; rintro x w7 ⟨rfl, hb⟩; have E7 := Lib.hid (E6.out.below hb E6.out.lt); have D7 := Lib.hid (D6.out.mono hb); have G7 := Lib.hid (G6.out.below hb G6.out.lt); have F7 := Lib.hid (fun p hp => (F6.out p hp).mono hb); have S7 := Lib.hid (S6.out.below hb S6.out.lt); have R7 := Lib.hid (R6.out.below hb R6.out.lt); have Z7 := Lib.hid (Z6.out.below hb Z6.out.lt); have B7 := Lib.hid (B6.out.trans (hb.mono B6.out.size)); clear hb)
    | ((with_reducible refine load_row (o := ⟨some 16, _, _, _, _, _⟩) rfl _ _ rfl w.heap.size ?_ _ s.cells _ S7.out Try.underlying25 rfl ?_ ?_); (focus go_simp); (focus (exact SS.out)))
    | ((with_reducible refine load_row (o := ⟨some 17, _, _, _, _, _⟩) rfl _ _ rfl w1.heap.size ?_ _ r.cells _ R7.out Try.underlying29 rfl ?_ ?_); (focus go_simp); (focus (exact RS.out)))
    | (go_at_call 52; (with_reducible refine (rfollows s d L r w7 ?_ h3 hk).mono ?_); (focus (exact H.out.mono B7.out)); rw [HFO.out]; rintro x w8 ⟨rfl, hb⟩; have E8 := Lib.hid (E7.out.below hb E7.out.lt); have D8 := Lib.hid (D7.out.mono hb); have G8 := Lib.hid (G7.out.below hb G7.out.lt); have F8 := Lib.hid (fun p hp => (F7.out p hp).mono hb); have R8 := Lib.hid (R7.out.below hb R7.out.lt); have Z8 := Lib.hid (Z7.out.below hb Z7.out.lt); have B8 := Lib.hid (B7.out.trans (hb.mono B7.out.size)); obtain ⟨d0, d1, d2, d3, d4, d5, d6, d7, d8, d9⟩ := R8.out.q10; clear hb))
  have hlen : L'.length = s.en := by have := congrArg List.length PE.out; simp at this; rw [this]; exact HLN.out
  have HL := Lib.hid hlen
  have O8 := Lib.hid (show EnO w8 (some ⟨g, 0, none⟩) s.en s.en (L'.map (·.1)) from EnO.of_row G8.out (by rw [List.length_map]; exact hlen) (by unfold maxLen; omega))
  have NE1 := Lib.hid (show w1.heap.size < w4.heap.size ∧ w2.heap.size < w4.heap.size by have := L4.out; have := L2.out; omega)
  clear d0 d1 d2 d3 d4 d5 d6 d7 d8 d9 k1 k2 k3 hlen
  refine region_t (fun v => Below w8.heap.size w8 v) 8 (by kernel_rfl) (by kernel_rfl) (by kernel_rfl) (Below.refl _ _).drew ?_
  obtain ⟨wd, hwd⟩ : ∃ wd, w8.drew = wd := ⟨_, rfl⟩
  have DW : Hid (Below w8.heap.size w8 wd) := Lib.hid (by rw [← hwd]; exact (Below.refl _ _).drew)
  rw [hwd]
  clear hwd
  (refine t_read 0 rfl (by kernel_rfl) (by kernel_rfl) (by kernel_rfl) (t_free rfl) ?_ ?_ ?_; rotate_left; (focus (intro v hv; go_simp; rfl)); go_simp)
  (refine t_read 1 rfl (by kernel_rfl) (by kernel_rfl) (by kernel_rfl) (t_free rfl) ?_ ?_ ?_; rotate_left; (focus (intro v hv; have q6 := (E8.out.below hv E8.out.lt).q7.2.2.2.2.2.2; go_simp; rfl)); go_simp)
  (refine t_read 2 rfl (by kernel_rfl) (by kernel_rfl) (by kernel_rfl) (t_free rfl) ?_ ?_ ?_; rotate_left; (focus (intro v hv; go_simp; rfl)); go_simp)
  (refine t_read 3 rfl (by kernel_rfl) (by kernel_rfl) (by kernel_rfl) (t_free rfl) ?_ ?_ ?_; rotate_left; (focus (intro v hv; refine run_cells 27 (.tmp 55) ?_ w1.heap.size 3 ?_ r.e.cells _ (R8.out.below hv R8.out.lt).ent Try.underlying27 rfl en_size; (focus rfl); go_simp)); go_simp)
  (refine t_call 4 rfl (by kernel_rfl) rfl (t_free rfl) 56 ?_ ?_ ?_; rotate_left; (focus (go_simp; rfl)))
  refine (rcopE r.e l wd (HREF.out.rd.mono (B8.out.trans (DW.out.mono B8.out.size))) hen).mono ?_
  rintro x w9 ⟨ra, rc, rfl, hrd, hb⟩
  have R9 := Lib.hid hrd
  have D9 := Lib.hid (DW.out.trans (hb.mono DW.out.size))
  clear hrd hb
  refine ⟨_, rfl, D9.out, ?_⟩
  go_simp
  (refine t_list 5 rfl (by kernel_rfl) rfl ?_; intro K hK)
  refine build_en rfl _ rfl ⟨r.e.ix, r.e.tm, r.e.kd, ra, r.e.n, rc⟩ (by go_simp) ?_
  intro w10 hr10 hb10 hz10
  have A10 := Lib.hid hr10
  have Ra := Lib.hid (R9.out.mono hb10)
  have Da := Lib.hid (D9.out.trans (hb10.mono D9.out.size))
  clear hr10 hb10 hz10
  refine hK _ _ Da.out ?_
  go_simp
  (refine t_list 6 rfl (by kernel_rfl) rfl ?_; intro K hK)
  refine append_en rfl _ _ rfl (some ⟨g, 0, none⟩) s.en s.en (L'.map (·.1)) (by go_simp) (O8.out.mono Da.out) hsl ⟨w9.heap.size, 0, none⟩ 1 ⟨r.e.ix, r.e.tm, r.e.kd, ra, r.e.n, rc⟩ (by go_simp) (fun j u hj => by rw [Go.WideShapes.add_plain, Nat.zero_add, A10.out.cellV]; exact hj) ?_
  intro ea ec w11 ho hcase
  have O11 := Lib.hid ho
  rcases hcase with ⟨_, _, _, _, hlt, _⟩ | ⟨hea, hb⟩
  · exact absurd hlt (Nat.lt_irrefl _)
  have EA := Lib.hid hea
  have Rb := Lib.hid (Ra.out.mono hb)
  have Db := Lib.hid (Da.out.trans (hb.mono Da.out.size))
  clear ho hea hb
  refine hK _ _ Db.out ?_
  go_simp
  (refine t_read 7 rfl (by kernel_rfl) (by kernel_rfl) (by kernel_rfl) (t_free rfl) ?_ ?_ ?_; rotate_left; (focus (intro v hv; go_simp; rfl)); go_simp)
  (refine t_last 8 rfl (by kernel_rfl) rfl (by kernel_rfl) (by kernel_rfl) ?_; intro K hK)
  have Eb := Lib.hid (E8.out.below Db.out E8.out.lt)
  refine store_cell rfl _ _ _ rfl w4.heap.size 6 (.slice ea (s.en + 1) ec) (by go_simp) (by go_simp) rfl rfl 25 _ Eb.out infoEns (by show 6 < 7; decide) ?_
  intro w12 hr12 hu12
  refine hK _ _ ?_
  have Ec : Hid (Row w12 w4.heap.size 25 (Sv.cells ⟨s.t, s.v, s.b, s.bt, s.f, ca, s.n, cc, ea, s.en + 1, ec⟩)) := Lib.hid hr12
  have DD : Hid (Below w.heap.size w w12) := Lib.hid ((B8.out.trans (Db.out.mono B8.out.size)).trans (hu12.below (Nat.le_trans B4.out.size (Nat.le_refl _))))
  have Dc := Lib.hid ((D8.out.mono Db.out).put Eb.out (NB_sv ⟨s.t, s.v, s.b, s.bt, s.f, ca, s.n, cc, some ⟨g, 0, none⟩, s.en, s.en⟩) hu12)
  have Rc' := Lib.hid (Rb.out.put Eb.out (NB_sv ⟨s.t, s.v, s.b, s.bt, s.f, ca, s.n, cc, some ⟨g, 0, none⟩, s.en, s.en⟩) hu12)
  have Fc := Lib.hid (fun p hp => EnF.put ((F8.out p hp).mono Db.out) Eb.out (NB_sv ⟨s.t, s.v, s.b, s.bt, s.f, ca, s.n, cc, some ⟨g, 0, none⟩, s.en, s.en⟩) hu12)
  have Oc := Lib.hid (O11.out.upd hu12 (fun b off e => by
    have h1 := EA.out
    rw [h1] at e
    have h2 := Option.some.inj e
    have h3 : w10.heap.size = b := congrArg Addr.block h2
    have h4 := Da.out.size
    have h5 := E8.out.lt
    omega))
  have Zc := Lib.hid ((Z8.out.below Db.out Z8.out.lt).upd hu12 (by have := NE1.out; omega))
  clear hr12 hu12
  go_simp
  go_wp2_with (first
    | ((with_reducible refine load_row (o := ⟨some 68, _, _, _, _, _⟩) rfl _ _ rfl w4.heap.size ?_ _ (Sv.cells ⟨s.t, s.v, s.b, s.bt, s.f, ca, s.n, cc, ea, s.en + 1, ec⟩) _ Ec.out Try.underlying25 rfl ?_ ?_); (focus go_simp); (focus (exact SS.out)))
    | ((with_reducible refine store_row (o := ⟨none, _, _, _, _, _⟩) rfl _ (.tmp 4) _ rfl w2.heap.size (Sv.cells ⟨s.t, s.v, s.b, s.bt, s.f, ca, s.n, cc, ea, s.en + 1, ec⟩) ?_ ?_ 25 _ Zc.out ?_ ?_ ?_ ?_); (focus go_simp); (focus (first | (go_simp; done) | (go_simp; rfl))); (focus (exact SS.out)); (focus rfl); (focus (exact sv_one _)); intro wz hr hu; have Ez' := Lib.hid hr; have Dz := Lib.hid (Dc.out.put Zc.out (NB_sv svZ) hu); have Rz := Lib.hid (Rc'.out.put Zc.out (NB_sv svZ) hu); have Oz := Lib.hid (Oc.out.upd hu (fun b off e => by have h1 := EA.out; rw [h1] at e; have h3 : w10.heap.size = b := congrArg Addr.block (Option.some.inj e); have h4 := Da.out.size; have h5 := E8.out.lt; have := NE1.out; omega)); have Fz := Lib.hid (fun p hp => EnF.put (Fc.out p hp) Zc.out (NB_sv svZ) hu); have Bz := Lib.hid (DD.out.trans (hu.below B2.out.size)); clear hr hu))
  have hfit : ∀ p ∈ L' ++ [((⟨r.e.ix, r.e.tm, r.e.kd, ra, r.e.n, rc⟩ : En), l)], EnF wz p.1 p.2 := by
    intro p hp
    rcases List.mem_append.1 hp with hp | hp
    · exact Fz.out p hp
    · obtain rfl := List.mem_singleton.1 hp
      exact ⟨HREF.out.ix, HREF.out.tm, HREF.out.kd, Rz.out⟩
  exact bodyPost_ret (results_row_tmp rfl _ _ w2.heap.size 25 _ _ _ (by go_simp) Ez'.out Try.underlying25 rfl SS.out) rfl ⟨⟨s.t, s.v, s.b, s.bt, s.f, ca, s.n, cc, ea, s.en + 1, ec⟩, L' ++ [((⟨r.e.ix, r.e.tm, r.e.kd, ra, r.e.n, rc⟩ : En), l)], rfl, Dz.out, rfl, rfl, rfl, rfl, rfl, rfl, rfl, Oz.out.ents (by simp) hfit, by simp [PE.out, pe], (fun b off e => by
    have e' : ea = some ⟨b, off, none⟩ := e
    rw [EA.out] at e'
    have h3 : w10.heap.size = b := congrArg Addr.block (Option.some.inj e')
    have h4 := Da.out.size
    have h5 := B8.out.size
    omega), Bz.out⟩
set_option maxRecDepth 100000 in
set_option maxHeartbeats 8000000 in
theorem rapp1 (s : Sv) (d : List UInt8) (L : List (En × List UInt8)) (r : Rc) (l p : List UInt8) (w : World) (h : SvF w s d L) (hr : RcF w r l p) (hsn : s.n ≤ 140737488355000) (hsl : s.en ≤ 1000000) (hbig : ∀ p ∈ L, p.1.n ≤ 140737488355000) (hck : chkR r l p = 0) (h3 : r.k = 3 → 1 ≤ r.e.ix ∧ r.e.ix ≤ 2147483648) (hk1 : r.k = 1) (hrn : r.n ≤ 140737488355000) (hfo : follV s.b L r = true) :
    Calls Try.prog 12 #[.agg s.cells.toArray, .agg r.cells.toArray] w fun x w' => ∃ s' L', x = .returned (.tuple #[.agg (Sv.cells s').toArray, .int .i64 0]) ∧ SvO w' w.heap.size s' p L' ∧ s'.t = s.t ∧ s'.v = s.v ∧ s'.b = r.i ∧ s'.bt = r.t ∧ s'.f = r.f ∧ s'.n = r.n ∧ L'.map pe = (L.filter (fun p => !decide (p.1.ix ≤ r.i))).map pe ∧ Below w.heap.size w w' := by
  have H := Lib.hid h
  have HRE := Lib.hid hr.e.rd
  have HRS := Lib.hid hr.rd
  have HCK := Lib.hid hck
  have HLN := Lib.hid h.es.hlen
  have SZ := Lib.hid sv_zero
  have SS := Lib.hid sv_size
  have RS := Lib.hid rc_size
  have HFO := Lib.hid hfo
  have HNR := Lib.hid hr.rd.hlen
  have hk : r.k = 1 ∨ r.k = 2 ∨ r.k = 3 ∨ r.k = 4 := .inl hk1
  have k1 : (r.k == 1) = true := by rw [hk1]; decide
  clear hfo
  clear h hr hck
  go_enter Try.func12, Try.ntmps12
  go_wp2_with (first
    | (with_reducible refine box_row (o := ⟨some 2, _, _, _, _, _⟩) rfl _ _ rfl s.cells rfl ?_; intro w1 hr1 hb1 hz1; have S1 := Lib.hid hr1; have B1 := Lib.hid hb1; clear hr1 hb1 hz1)
    | (with_reducible refine box_row (o := ⟨some 3, _, _, _, _, _⟩) rfl _ _ rfl r.cells rfl ?_; intro w2 hr2 hb2 hz2; have R2 := Lib.hid hr2; have S2 := Lib.hid (S1.out.below hb2 S1.out.lt); have L1 := Lib.hid (show w.heap.size < w1.heap.size from S1.out.lt); have B2 := Lib.hid (B1.out.trans (hb2.mono B1.out.size)); clear hr2 hb2 hz2)
    | ((with_reducible refine alloc_row (o := ⟨some 4, _, _, _, _, _⟩) rfl _ rfl _ SZ.out ?_); intro w3 hr3 hb3 hz3; have Z3 := Lib.hid hr3; have L2 := Lib.hid (show w1.heap.size < w2.heap.size from R2.out.lt); have S3 := Lib.hid (S2.out.below hb3 S2.out.lt); have R3 := Lib.hid (R2.out.below hb3 R2.out.lt); have B3 := Lib.hid (B2.out.trans (hb3.mono B2.out.size)); have L3 := Lib.hid (show w2.heap.size < w3.heap.size from hr3.lt); clear hr3 hb3 hz3)
    | ((with_reducible refine load_row (o := ⟨some 8, _, _, _, _, _⟩) rfl _ _ rfl w.heap.size ?_ _ s.cells _ S3.out Try.underlying25 rfl ?_ ?_); (focus go_simp); (focus (exact SS.out)))
    | (go_at_call 50; (with_reducible refine (scopied s d L w3 ?_ hsn hsl hbig).mono ?_); (focus (exact H.out.mono B3.out)); rintro x w4 ⟨ca, cc, g, L', rfl, hrd, hgb, hrow, hfit, hpe, hb⟩; have D4 := Lib.hid hrd; have GB := Lib.hid hgb; have G4 := Lib.hid hrow; have F4 := Lib.hid hfit; have PE := Lib.hid hpe; have S4 := Lib.hid (S3.out.below hb S3.out.lt); have R4 := Lib.hid (R3.out.below hb R3.out.lt); have Z4 := Lib.hid (Z3.out.below hb Z3.out.lt); have B4 := Lib.hid (B3.out.trans (hb.mono B3.out.size)); clear hrd hgb hrow hfit hpe hb)
    | ((with_reducible refine alloc_row (o := ⟨some 6, _, _, _, _, _⟩) rfl _ rfl _ SZ.out ?_); intro w5 hr hb hz; have E5 := Lib.hid hr; have L4 := Lib.hid (show g < w4.heap.size ∧ w2.heap.size < w4.heap.size from ⟨G4.out.lt, Z4.out.lt⟩); have D5 := Lib.hid (D4.out.mono hb); have G5 := Lib.hid (G4.out.below hb G4.out.lt); have F5 := Lib.hid (fun p hp => (F4.out p hp).mono hb); have S5 := Lib.hid (S4.out.below hb S4.out.lt); have R5 := Lib.hid (R4.out.below hb R4.out.lt); have Z5 := Lib.hid (Z4.out.below hb Z4.out.lt); have B5 := Lib.hid (B4.out.trans (hb.mono B4.out.size)); clear hr hb hz)
    | ((with_reducible refine store_row (o := ⟨none, _, _, _, _, _⟩) rfl _ (.tmp 6) _ rfl w4.heap.size (Sv.cells ⟨s.t, s.v, s.b, s.bt, s.f, ca, s.n, cc, some ⟨g, 0, none⟩, s.en, s.en⟩) ?_ ?_ 25 _ E5.out ?_ ?_ ?_ ?_); (focus go_simp); (focus (first | (go_simp; done) | (go_simp; rfl))); (focus (exact SS.out)); (focus rfl); (focus (exact sv_one _)); intro w6 hr hu; have E6 := Lib.hid hr; have D6 := Lib.hid (D5.out.put E5.out (NB_sv svZ) hu); have G6 := Lib.hid (G5.out.upd hu (by have := L4.out; omega)); have F6 := Lib.hid (fun p hp => EnF.put (F5.out p hp) E5.out (NB_sv svZ) hu); have S6 := Lib.hid (S5.out.upd hu (by have := L4.out; have := L2.out; have := L1.out; omega)); have R6 := Lib.hid (R5.out.upd hu (by have := L4.out; have := L2.out; omega)); have Z6 := Lib.hid (Z5.out.upd hu (by have := L4.out; omega)); have B6 := Lib.hid (B5.out.trans (hu.below B4.out.size)); clear hr hu)
    | ((with_reducible refine load_row (o := ⟨some 10, _, _, _, _, _⟩) rfl _ _ rfl w1.heap.size ?_ _ r.cells _ R6.out Try.underlying29 rfl ?_ ?_); (focus go_simp); (focus (exact RS.out)))
    | (go_at_call 51; (with_reducible refine (rcheck r l p w6 ?_ ?_).mono ?_); (focus (exact HRE.out.mono B6.out)); (focus (exact HRS.out.mono B6.out)); rw [HCK.out]; rintro x w7 ⟨rfl, hb⟩; have E7 := Lib.hid (E6.out.below hb E6.out.lt); have D7 := Lib.hid (D6.out.mono hb); have G7 := Lib.hid (G6.out.below hb G6.out.lt); have F7 := Lib.hid (fun p hp => (F6.out p hp).mono hb); have S7 := Lib.hid (S6.out.below hb S6.out.lt); have R7 := Lib.hid (R6.out.below hb R6.out.lt); have Z7 := Lib.hid (Z6.out.below hb Z6.out.lt); have B7 := Lib.hid (B6.out.trans (hb.mono B6.out.size)); clear hb)
    | ((with_reducible refine load_row (o := ⟨some 16, _, _, _, _, _⟩) rfl _ _ rfl w.heap.size ?_ _ s.cells _ S7.out Try.underlying25 rfl ?_ ?_); (focus go_simp); (focus (exact SS.out)))
    | ((with_reducible refine load_row (o := ⟨some 17, _, _, _, _, _⟩) rfl _ _ rfl w1.heap.size ?_ _ r.cells _ R7.out Try.underlying29 rfl ?_ ?_); (focus go_simp); (focus (exact RS.out)))
    | (go_at_call 52; (with_reducible refine (rfollows s d L r w7 ?_ h3 hk).mono ?_); (focus (exact H.out.mono B7.out)); rw [HFO.out]; rintro x w8 ⟨rfl, hb⟩; have E8 := Lib.hid (E7.out.below hb E7.out.lt); have D8 := Lib.hid (D7.out.mono hb); have G8 := Lib.hid (G7.out.below hb G7.out.lt); have F8 := Lib.hid (fun p hp => (F7.out p hp).mono hb); have R8 := Lib.hid (R7.out.below hb R7.out.lt); have Z8 := Lib.hid (Z7.out.below hb Z7.out.lt); have B8 := Lib.hid (B7.out.trans (hb.mono B7.out.size)); obtain ⟨d0, d1, d2, d3, d4, d5, d6, d7, d8, d9⟩ := R8.out.q10; clear hb))
  have hlen : L'.length = s.en := by have := congrArg List.length PE.out; simp at this; rw [this]; exact HLN.out
  have HL := Lib.hid hlen
  have NE1 := Lib.hid (show w1.heap.size < w4.heap.size ∧ w2.heap.size < w4.heap.size by have := L4.out; have := L2.out; omega)
  clear d0 d1 d2 d3 d4 d5 d6 d7 d8 d9 k1 hlen
  refine region_h (fun v => Row v w1.heap.size 29 r.cells) (by kernel_rfl) (by kernel_rfl) R8.out ?_
  obtain ⟨wd, hwd⟩ : ∃ wd, w8.drew = wd := ⟨_, rfl⟩
  have DW : Hid (Below w8.heap.size w8 wd) := Lib.hid (by rw [← hwd]; exact (Below.refl _ _).drew)
  rw [hwd]
  clear hwd
  (refine h_read 0 rfl (by kernel_rfl) (by kernel_rfl) (h_free rfl) ?_ ?_ ?_; rotate_left; (focus (intro v hv; go_simp; rfl)); go_simp)
  (refine h_read 1 rfl (by kernel_rfl) (by kernel_rfl) (h_free rfl) ?_ ?_ ?_; rotate_left; (focus (intro v hv; obtain ⟨d0, d1, d2, d3, d4, d5, d6, d7, d8, d9⟩ := hv.q10; go_simp; rfl)); go_simp)
  (refine h_read 2 rfl (by kernel_rfl) (by kernel_rfl) (h_free rfl) ?_ ?_ ?_; rotate_left; (focus (intro v hv; go_simp; rfl)); go_simp)
  (refine h_read 3 rfl (by kernel_rfl) (by kernel_rfl) (h_free rfl) ?_ ?_ ?_; rotate_left; (focus (intro v hv; obtain ⟨d0, d1, d2, d3, d4, d5, d6, d7, d8, d9⟩ := hv.q10; go_simp; rfl)); go_simp)
  (refine h_read 4 rfl (by kernel_rfl) (by kernel_rfl) (h_free rfl) ?_ ?_ ?_; rotate_left; (focus (intro v hv; go_simp; rfl)); go_simp)
  (refine h_read 5 rfl (by kernel_rfl) (by kernel_rfl) (h_free rfl) ?_ ?_ ?_; rotate_left; (focus (intro v hv; obtain ⟨d0, d1, d2, d3, d4, d5, d6, d7, d8, d9⟩ := hv.q10; go_simp; rfl)); go_simp)
  (refine h_read 6 rfl (by kernel_rfl) (by kernel_rfl) (h_free rfl) ?_ ?_ ?_; rotate_left; (focus (intro v hv; go_simp; rfl)); go_simp)
  (refine h_read 7 rfl (by kernel_rfl) (by kernel_rfl) (h_free rfl) ?_ ?_ ?_; rotate_left; (focus (intro v hv; obtain ⟨d0, d1, d2, d3, d4, d5, d6, d7, d8, d9⟩ := hv.q10; go_simp; rfl)); go_simp)
  (refine h_read 9 rfl (by kernel_rfl) (by kernel_rfl) (h_free rfl) ?_ ?_ ?_; rotate_left; (focus (intro v hv; go_simp; rfl)); go_simp)
  (refine h_call 8 rfl (by kernel_rfl) (h_free rfl) 53 ?_ ?_ ?_; rotate_left; (focus (go_simp; rfl)))
  refine (fclone r.a r.n r.c p wd (HRS.out.mono (B8.out.trans (DW.out.mono B8.out.size))) hrn).mono ?_
  rintro e w9 ⟨v9, rfl, hf9, hb9⟩
  obtain ⟨a9, c9, hv9, hr9⟩ := hf9.form' r.n HNR.out
  subst hv9
  have P9 := Lib.hid hr9
  have W9 := Lib.hid (DW.out.trans (hb9.mono DW.out.size))
  have E9 := Lib.hid (E8.out.below W9.out E8.out.lt)
  have R9 := Lib.hid (R8.out.below W9.out R8.out.lt)
  clear hf9 hr9 hb9
  refine ⟨_, rfl, R9.out, ?_⟩
  go_simp
  (refine h_list 10 rfl (by kernel_rfl) ?_; intro K hK)
  refine store_cell rfl _ _ _ rfl w4.heap.size 2 (.int .i64 r.i) (by go_simp) (by go_simp) rfl rfl 25 _ E9.out infoInt1 (by show 2 < 7; decide) ?_
  intro wxa hrx hux
  have Ea := Lib.hid hrx
  have Ua := Lib.hid (hux)
  have Ra := Lib.hid (R9.out.upd hux (by have := NE1.out; omega))
  clear hrx hux
  refine hK _ _ Ra.out ?_
  go_simp
  (refine h_read 11 rfl (by kernel_rfl) (by kernel_rfl) (h_free rfl) ?_ ?_ ?_; rotate_left; (focus (intro v hv; go_simp; rfl)); go_simp)
  (refine h_list 12 rfl (by kernel_rfl) ?_; intro K hK)
  refine store_cell rfl _ _ _ rfl w4.heap.size 3 (.int .i64 r.t) (by go_simp) (by go_simp) rfl rfl 25 _ Ea.out infoInt1 (by show 3 < 7; decide) ?_
  intro wxb hrx hux
  have Eb := Lib.hid hrx
  have Ub := Lib.hid (Ua.out.trans hux)
  have Rb := Lib.hid (Ra.out.upd hux (by have := NE1.out; omega))
  clear hrx hux
  refine hK _ _ Rb.out ?_
  go_simp
  (refine h_read 13 rfl (by kernel_rfl) (by kernel_rfl) (h_free rfl) ?_ ?_ ?_; rotate_left; (focus (intro v hv; go_simp; rfl)); go_simp)
  (refine h_list 14 rfl (by kernel_rfl) ?_; intro K hK)
  refine store_cell rfl _ _ _ rfl w4.heap.size 4 (.int .i64 r.f) (by go_simp) (by go_simp) rfl rfl 25 _ Eb.out infoInt1 (by show 4 < 7; decide) ?_
  intro wxc hrx hux
  have Ec := Lib.hid hrx
  have Uc := Lib.hid (Ub.out.trans hux)
  have Rc := Lib.hid (Rb.out.upd hux (by have := NE1.out; omega))
  clear hrx hux
  refine hK _ _ Rc.out ?_
  go_simp
  (refine h_read 15 rfl (by kernel_rfl) (by kernel_rfl) (h_free rfl) ?_ ?_ ?_; rotate_left; (focus (intro v hv; go_simp; rfl)); go_simp)
  (refine h_list 16 rfl (by kernel_rfl) ?_; intro K hK)
  refine store_cell rfl _ _ _ rfl w4.heap.size 5 (.slice a9 r.n c9) (by go_simp) (by go_simp) rfl rfl 25 _ Ec.out infoBytes1 (by show 5 < 7; decide) ?_
  intro wxd hrx hux
  have Ed := Lib.hid hrx
  have Ud := Lib.hid (Uc.out.trans hux)
  have Rd := Lib.hid (Rc.out.upd hux (by have := NE1.out; omega))
  clear hrx hux
  refine hK _ _ Rd.out ?_
  go_simp
  refine h_done (by kernel_rfl) ?_
  have En' : Hid (Row wxd w4.heap.size 25 (Sv.cells ⟨s.t, s.v, r.i, r.t, r.f, a9, r.n, c9, some ⟨g, 0, none⟩, s.en, s.en⟩)) := Lib.hid Ed.out
  have Dn := Lib.hid (P9.out.put E9.out (NB_sv ⟨s.t, s.v, s.b, s.bt, s.f, ca, s.n, cc, some ⟨g, 0, none⟩, s.en, s.en⟩) Ud.out)
  have Fn := Lib.hid (fun p hp => EnF.put ((F8.out p hp).mono W9.out) E9.out (NB_sv ⟨s.t, s.v, s.b, s.bt, s.f, ca, s.n, cc, some ⟨g, 0, none⟩, s.en, s.en⟩) Ud.out)
  have Gn := Lib.hid ((G8.out.below W9.out G8.out.lt).upd Ud.out (by have := L4.out; omega))
  have Zn := Lib.hid ((Z8.out.below W9.out Z8.out.lt).upd Ud.out (by have := NE1.out; omega))
  have Bn : Hid (Below w.heap.size w wxd) := Lib.hid ((B8.out.trans (W9.out.mono B8.out.size)).trans (Ud.out.below B4.out.size))
  obtain ⟨c0, c1, c2, c3, c4, c5, c6⟩ := En'.out.q7
  go_wp2_with (first
    | (go_at_call 54; refine (rdelf1 r w1.heap.size g s.en (L'.map (·.1)) wxd Rd.out Gn.out (by rw [List.length_map]; exact HL.out) hsl (by have := GB.out; have := L2.out; have := L3.out; omega)).mono ?_; rintro x wy ⟨m, R, rfl, hRl, hmn, hRt, hrow, hgw⟩; have HRL := Lib.hid hRl; have HMN := Lib.hid hmn; have HRT := Lib.hid hRt; have Ga := Lib.hid hrow; have Da := Lib.hid (Dn.out.gwr Gn.out (NB_flat _) hgw); have Fa := Lib.hid (fun p hp => (show EnF wy p.1 p.2 from ⟨(Fn.out p hp).ix, (Fn.out p hp).tm, (Fn.out p hp).kd, (Fn.out p hp).rd.gwr Gn.out (NB_flat _) hgw⟩)); have Ea' := Lib.hid (En'.out.gw hgw (by have := L4.out; omega)); have Za := Lib.hid (Zn.out.gw hgw (by have := GB.out; have := L3.out; omega)); have Ba := Lib.hid (Bn.out.trans (hgw.below (Nat.le_trans B3.out.size GB.out) Bn.out.size)); clear hRl hmn hRt hrow hgw c0 c1 c2 c3 c4 c5 c6; have U := Lib.hid (Upd.setCell wy w4.heap.size 6 (.slice (some ⟨g, 0, none⟩) m s.en)); have Ez1 := Lib.hid (show Row (wy.setCell ⟨w4.heap.size, 6, none⟩ (.slice (some ⟨g, 0, none⟩) m s.en)) w4.heap.size 25 (Sv.cells ⟨s.t, s.v, r.i, r.t, r.f, a9, r.n, c9, some ⟨g, 0, none⟩, m, s.en⟩) from Ea'.out.setV 6 (.slice (some ⟨g, 0, none⟩) m s.en)); have Db := Lib.hid (Da.out.put Ea'.out (NB_sv ⟨s.t, s.v, r.i, r.t, r.f, a9, r.n, c9, some ⟨g, 0, none⟩, s.en, s.en⟩) U.out); have Fb := Lib.hid (fun p hp => EnF.put (Fa.out p hp) Ea'.out (NB_sv ⟨s.t, s.v, r.i, r.t, r.f, a9, r.n, c9, some ⟨g, 0, none⟩, s.en, s.en⟩) U.out); have Gb := Lib.hid (Ga.out.upd U.out (by have := L4.out; omega)); have Zb := Lib.hid (Za.out.upd U.out (by have := NE1.out; omega)); have Bb := Lib.hid (Ba.out.trans (U.out.below B4.out.size)); have f6 := Ea'.out.frozen 6; obtain ⟨c0, c1, c2, c3, c4, c5, c6⟩ := Ea'.out.q7)
    | ((with_reducible refine load_row (o := ⟨some 68, _, _, _, _, _⟩) rfl _ _ rfl w4.heap.size ?_ _ (Sv.cells ⟨s.t, s.v, r.i, r.t, r.f, a9, r.n, c9, some ⟨g, 0, none⟩, m, s.en⟩) _ Ez1.out Try.underlying25 rfl ?_ ?_); (focus go_simp); (focus (exact SS.out)))
    | ((with_reducible refine store_row (o := ⟨none, _, _, _, _, _⟩) rfl _ (.tmp 4) _ rfl w2.heap.size (Sv.cells ⟨s.t, s.v, r.i, r.t, r.f, a9, r.n, c9, some ⟨g, 0, none⟩, m, s.en⟩) ?_ ?_ 25 _ Zb.out ?_ ?_ ?_ ?_); (focus go_simp); (focus (first | (go_simp; done) | (go_simp; rfl))); (focus (exact SS.out)); (focus rfl); (focus (exact sv_one _)); intro wz hr hu; have Ez := Lib.hid hr; have Dz := Lib.hid (Db.out.put Zb.out (NB_sv svZ) hu); have Gz := Lib.hid (Gb.out.upd hu (by have := GB.out; have := L3.out; omega)); have Fz := Lib.hid (fun p hp => EnF.put (Fb.out p hp) Zb.out (NB_sv svZ) hu); have Bz := Lib.hid (Bb.out.trans (hu.below B2.out.size)); clear hr hu))
  have hfl : (L'.map (·.1)).filter (fun e => !pr1 r e) = (L'.filter (fun p => !decide (p.1.ix ≤ r.i))).map (·.1) := by rw [List.filter_map]; rfl
  exact bodyPost_ret (results_row_tmp rfl _ _ w2.heap.size 25 _ _ _ (by go_simp) Ez.out Try.underlying25 rfl SS.out) rfl ⟨⟨s.t, s.v, r.i, r.t, r.f, a9, r.n, c9, some ⟨g, 0, none⟩, m, s.en⟩, L'.filter (fun p => !decide (p.1.ix ≤ r.i)), rfl, ⟨Dz.out, ⟨g, R, rfl, Nat.le_trans B3.out.size GB.out, Gz.out, HRL.out, HMN.out, by rw [← hfl]; exact HRT.out⟩, fun p hp => Fz.out p ((List.mem_filter.1 hp).1), hsl⟩, rfl, rfl, rfl, rfl, rfl, rfl, filter_pe (fun x => !decide (x ≤ r.i)) PE.out, Bz.out⟩
end Go.Proofs.Ytbcaphkbjeejhaa.W
