/- LAYER 13 (rlog): Reset, Append, New of the program. LAYER 13 (rlog): Append and New of the program, plain and in one contract each. -/
import Derived.Test.YtjkkopbhdeljmaaGreatRlO
import Derived.Test.YtjkkopbhdeljmaaGreatRcW
import Derived.Test.YtjkkopbhdeljmaaGreatSt
set_option linter.unusedSimpArgs false
set_option linter.unusedVariables false
namespace Go.Proofs.YtjkkopbhdeljmaaGreat.W
open Go Go.ChangeShapes Go.WideShapes Go.ChangeAt Go.RowKit

theorem NB_lg (b t c : Int) (ea : Option Addr) (en ec : Nat) : NB [.bool true, .int .i64 b, .int .i64 t, .int .i64 c, .slice ea en ec] := by
  intro x hx
  simp [B] at hx
theorem EnF.put13 {w w' : World} {e : En} {l : List UInt8} {g : Nat} {t : TypeId} {L : List Value} (h : EnF w e l) (hq : Row w g t L) (hnb : NB L) (hu : Upd w w' g) : EnF w' e l := ⟨h.ix, h.tm, h.kd, h.rd.put hq hnb hu⟩
/-- F, and what is new in w' -/
def FG (F : Nat → Prop) (w w' : World) : Nat → Prop := fun k => F k ∨ (w.heap.size ≤ k ∧ k < w'.heap.size)
theorem FG.sub {F : Nat → Prop} {w w' : World} {k : Nat} (h : F k) : FG F w w' k := .inl h
structure GE2 (w w' : World) : Prop where
  rd : ∀ {a : Option Addr} {n c : Nat} {l : List UInt8}, Rd w a n c l → Rd w' a n c l
theorem GE2.en {w w' : World} (h : GE2 w w') {e : En} {l : List UInt8} (k : EnF w e l) : EnF w' e l := ⟨k.ix, k.tm, k.kd, h.rd k.rd⟩
theorem grow2 {w w' : World} {ea ea' : Option Addr} {en ec ec' : Nat} (hO : ∃ M, Hid (EnO w ea en ec M)) (h : (∃ g, ea = some ⟨g, 0, none⟩ ∧ ea' = ea ∧ ec' = ec ∧ en < ec ∧ Upd w w' g) ∨ (ea' = some ⟨w.heap.size, 0, none⟩ ∧ Below w.heap.size w w')) (hn : w.heap.size < w'.heap.size ∨ ∀ x, ea' ≠ some ⟨w.heap.size, x, none⟩) :
    GE2 w w' ∧ Ft (fun k => ∃ off, ea = some ⟨k, off, none⟩) w w' ∧ (∀ x off, ea' = some ⟨x, off, none⟩ → (∃ o, ea = some ⟨x, o, none⟩) ∨ (w.heap.size ≤ x ∧ x < w'.heap.size)) := by
  rcases h with ⟨g, rfl, rfl, -, -, hu⟩ | ⟨rfl, hb⟩
  · obtain ⟨M, hM⟩ := hO
    rcases hM.out.2 with ⟨h0, -⟩ | ⟨g', R, he, hr, -⟩
    · cases h0
    · have : g = g' := congrArg Addr.block (Option.some.inj he)
      subst this
      exact ⟨⟨fun h => h.put hr (NB_flat _) hu⟩, Ft.of_upd hu ⟨0, rfl⟩, fun x off e => .inl ⟨off, e⟩⟩
  · refine ⟨⟨fun h => h.mono hb⟩, Ft.of_below hb, fun x off e => .inr ?_⟩
    have : w.heap.size = x := congrArg Addr.block (Option.some.inj e)
    rcases hn with hn | hn
    · exact ⟨by omega, by omega⟩
    · exact absurd rfl (hn 0)
theorem infoEns13 : (Tryz.prog.info? 23).map (·.size) = some 1 := by kernel_rfl
theorem base_size : (Tryz.prog.info? 87).map (·.size) = some 3 := by kernel_rfl
theorem lg_size : (Tryz.prog.info? 89).map (·.size) = some 5 := by kernel_rfl
theorem built_base (a b c : Int) : Tryz.prog.built 87 [(0, .int .i64 a), (1, .int .i64 b), (2, .int .i64 c)] = some [.int .i64 a, .int .i64 b, .int .i64 c].toArray := by kernel_rfl
theorem int3_one (a b c : Int) : ∀ v ∈ [Value.int .i64 a, .int .i64 b, .int .i64 c], v.oneCell' = true := by
  intro v hv
  simp at hv
  rcases hv with rfl | rfl | rfl <;> rfl
set_option maxRecDepth 100000 in
set_option maxHeartbeats 4000000 in
theorem greset (p : Nat) (F : Nat → Prop) (b t c : Int) (ea : Option Addr) (en ec : Nat) (L : List (En × List UInt8)) (b' t' c' : Int) (w : World) (h : LG w p F b t c ea en ec L) (ho : LOK (lsOf b t c L)) :
    Calls Tryz.prog 49 #[.pointer (some ⟨p, 0, none⟩), .int .i64 b', .int .i64 t', .int .i64 c'] w fun x w' => (∃ v, x = .returned v) ∧ LG w' p F b' t' c' none 0 0 [] ∧ Upd w w' p := by
  have RD := Lib.hid (gready p F b t c ea en ec L w h ho)
  have H := Lib.hid h
  have BS := Lib.hid base_size
  clear h ho
  go_enter Tryz.func49, Tryz.ntmps49
  go_wp2_with (first
    | (go_at_call 51; refine RD.out.mono ?_; rintro x w1 ⟨rfl, rfl⟩)
    | ((with_reducible refine build_row (o := ⟨some 16, _, _, _, _, _⟩) rfl _ _ rfl [.int .i64 b', .int .i64 t', .int .i64 c'] ?_ ?_); (focus (go_simp; exact built_base b' t' c')))
    | ((with_reducible refine store_part (o := ⟨none, _, _, _, _, _⟩) rfl _ (.tmp 18) _ rfl p 1 [.int .i64 b', .int .i64 t', .int .i64 c'] ?_ ?_ 89 _ H.out.row ?_ ?_ (int3_one _ _ _) ?_); (focus go_simp); (focus (first | (go_simp; done) | (go_simp; rfl))); (focus (exact BS.out)); (focus (show 1 + 3 ≤ 5; decide)); intro w2 hr hu; have R2 : Hid (Row w2 p 89 [.bool true, .int .i64 b', .int .i64 t', .int .i64 c', .slice ea en ec]) := Lib.hid hr; have U2 := Lib.hid hu; clear hr hu; have f4 := R2.out.frozen 4; obtain ⟨c0, c1, c2, c3, c4⟩ := R2.out.c5))
  first | go_end0 | (refine bodyPost_ret (results_none rfl _ _ _) rfl ?_)
  refine ⟨⟨_, rfl⟩, ⟨R2.out.setV 4 (.slice none 0 0), EnO.nil _, (fun _ _ e => by cases e), (by simp), (by simp), H.out.fp, fun k hk => ?_⟩, U2.out.trans (Upd.setCell _ _ _ _)⟩
  have := H.out.lt k hk
  have := U2.out.size
  simp [World.setCell]; omega
set_option maxRecDepth 100000 in
set_option maxHeartbeats 8000000 in
theorem gappend_bad (p : Nat) (F : Nat → Prop) (b t c : Int) (ea : Option Addr) (en ec : Nat) (L : List (En × List UInt8)) (e : En) (l : List UInt8) (w : World) (h : LG w p F b t c ea en ec L) (ho : LOK (lsOf b t c L)) (hk : enOk e = false) :
    Calls Tryz.prog 50 #[.pointer (some ⟨p, 0, none⟩), .agg e.cells.toArray] w fun x w' => x = .returned (.int .i64 1) ∧ Below w.heap.size w w' := by
  have H := Lib.hid h
  have HO := Lib.hid ho
  have HK := Lib.hid hk
  have ES := Lib.hid en_size
  clear h ho hk
  go_enter Tryz.func50, Tryz.ntmps50
  go_wp2_with (first
    | (with_reducible refine box_row (o := ⟨some 3, _, _, _, _, _⟩) rfl _ _ rfl e.cells rfl ?_; intro w1 hr1 hb1 hz1; have E1 := Lib.hid hr1; have B1 := Lib.hid hb1; clear hr1 hb1 hz1)
    | (go_at_call 51; refine (gready p F b t c ea en ec L w1 (H.out.mono B1.out) HO.out).mono ?_; rintro x w2 ⟨rfl, rfl⟩)
    | ((with_reducible refine load_row (o := ⟨some 8, _, _, _, _, _⟩) rfl _ _ rfl w.heap.size ?_ _ e.cells _ E1.out Tryz.underlying69 rfl ?_ ?_); (focus go_simp); (focus (exact ES.out)))
    | (go_at_call 88; (with_reducible refine (rentry e w1).mono ?_); rw [HK.out]; rintro x w3 ⟨rfl, hb⟩; have B3 := Lib.hid (B1.out.trans (hb.mono B1.out.size)); clear hb))
  go_ret
  exact ⟨rfl, B3.out⟩
set_option maxRecDepth 100000 in
set_option maxHeartbeats 8000000 in
theorem gappend_log (p : Nat) (F : Nat → Prop) (b t c : Int) (ea : Option Addr) (en ec : Nat) (L : List (En × List UInt8)) (e : En) (l : List UInt8) (w : World) (h : LG w p F b t c ea en ec L) (ho : LOK (lsOf b t c L)) (hk : enOk e = true) (he : EnF w e l) (hx : e.ix ≠ (lsOf b t c L).last + 1) :
    Calls Tryz.prog 50 #[.pointer (some ⟨p, 0, none⟩), .agg e.cells.toArray] w fun x w' => x = .returned (.int .i64 10) ∧ Below w.heap.size w w' := by
  have hv : (lsOf b t c L).last = b + (en : Int) := by unfold LS.last lsOf; dsimp only; rw [List.length_map, h.len]
  have hb := ho.b
  have hn := ho.n
  rw [show (lsOf b t c L).l.length = en by rw [← h.len]; simp [lsOf]] at hn
  dsimp only [lsOf] at hb
  have GL := Lib.hid (fun (W : World) (hb : Below w.heap.size w W) => glast p F b t c ea en ec L W (h.mono hb) ho)
  obtain ⟨z, hz⟩ : ∃ z, (lsOf b t c L).last = z := ⟨_, rfl⟩
  rw [hz] at GL hx
  rw [hz] at hv
  have gz : IntKind.i64.wrap (z + 1) = z + 1 := by rw [IntKind.wrap_i64]; omega
  have H := Lib.hid h
  have HO := Lib.hid ho
  have HK := Lib.hid hk
  have HE := Lib.hid he
  have ES := Lib.hid en_size
  have hq1 : (e.ix == z + 1) = false := by simpa using hx
  have hq2 : (e.ix != z + 1) = true := by simpa using hx
  clear h ho hk he hz hv
  go_enter Tryz.func50, Tryz.ntmps50
  go_wp2_with (first
    | (with_reducible refine box_row (o := ⟨some 3, _, _, _, _, _⟩) rfl _ _ rfl e.cells rfl ?_; intro w1 hr1 hb1 hz1; have E1 := Lib.hid hr1; have B1 := Lib.hid hb1; clear hr1 hb1 hz1)
    | (go_at_call 51; refine (gready p F b t c ea en ec L w1 (H.out.mono B1.out) HO.out).mono ?_; rintro x w2 ⟨rfl, rfl⟩)
    | ((with_reducible refine load_row (o := ⟨some 8, _, _, _, _, _⟩) rfl _ _ rfl w.heap.size ?_ _ e.cells _ E1.out Tryz.underlying69 rfl ?_ ?_); (focus go_simp); (focus (exact ES.out)))
    | (go_at_call 88; (with_reducible refine (rentry e w1).mono ?_); rw [HK.out]; rintro x w3 ⟨rfl, hb⟩; have B3 := Lib.hid (B1.out.trans (hb.mono B1.out.size)); have E3 := Lib.hid (E1.out.below hb E1.out.lt); clear hb))
  refine region_h (fun v => Below w3.heap.size w3 v) (by kernel_rfl) (by kernel_rfl) (Below.refl _ _).drew ?_
  obtain ⟨wd, hwd⟩ : ∃ wd, w3.drew = wd := ⟨_, rfl⟩
  have D0 : Hid (Below w3.heap.size w3 wd) := Lib.hid (by rw [← hwd]; exact (Below.refl _ _).drew)
  rw [hwd]
  clear hwd
  (refine h_read 0 rfl (by kernel_rfl) (by kernel_rfl) (h_free rfl) ?_ ?_ ?_; rotate_left; (focus (intro v hv; go_simp; rfl)); go_simp)
  (refine h_read 1 rfl (by kernel_rfl) (by kernel_rfl) (h_free rfl) ?_ ?_ ?_; rotate_left; (focus (intro v hv; obtain ⟨e0, e1, e2, e3⟩ := (E3.out.below hv E3.out.lt).q4; go_simp; rfl)); go_simp)
  (refine h_read 2 rfl (by kernel_rfl) (by kernel_rfl) (h_free rfl) ?_ ?_ ?_; rotate_left; (focus (intro v hv; go_simp; rfl)); go_simp)
  (refine h_call 3 rfl (by kernel_rfl) (h_free rfl) 24 ?_ ?_ ?_; rotate_left; (focus (go_simp; rfl)))
  refine (GL.out wd (B3.out.trans (D0.out.mono B3.out.size))).mono ?_
  rintro x v1 ⟨rfl, hb⟩
  have J1 := Lib.hid (D0.out.trans (hb.mono D0.out.size))
  clear hb
  refine ⟨_, rfl, J1.out, ?_⟩
  go_simp
  (refine h_read 4 rfl (by kernel_rfl) (by kernel_rfl) (h_free rfl) ?_ ?_ ?_; rotate_left; (focus (intro v hv; go_simp; rfl)); go_simp)
  (refine h_read 5 rfl (by kernel_rfl) (by kernel_rfl) (h_free rfl) ?_ ?_ ?_; rotate_left; (focus (intro v hv; go_simp; rfl)); go_simp)
  refine h_done (by kernel_rfl) ?_
  go_wp2_with fail
  go_ret
  exact ⟨rfl, B3.out.trans (J1.out.mono B3.out.size)⟩
set_option maxRecDepth 100000 in
set_option maxHeartbeats 8000000 in
theorem gappend_ok (p : Nat) (F : Nat → Prop) (b t c : Int) (ea : Option Addr) (en ec : Nat) (L : List (En × List UInt8)) (e : En) (l : List UInt8) (w : World) (h : LG w p F b t c ea en ec L) (ho : LOK (lsOf b t c L)) (hk : enOk e = true) (he : EnF w e l) (hx : e.ix = (lsOf b t c L).last + 1) :
    Calls Tryz.prog 50 #[.pointer (some ⟨p, 0, none⟩), .agg e.cells.toArray] w fun x w' => ∃ ea' ec' L', x = .returned (.int .i64 0) ∧ LG w' p (FG F w w') b t c ea' (en + 1) ec' L' ∧ L'.map pe = L.map pe ++ [pe (e, l)] ∧ Ft F w w' := by
  have hv : (lsOf b t c L).last = b + (en : Int) := by unfold LS.last lsOf; dsimp only; rw [List.length_map, h.len]
  have hb := ho.b
  have hn := ho.n
  rw [show (lsOf b t c L).l.length = en by rw [← h.len]; simp [lsOf]] at hn
  dsimp only [lsOf] at hb
  have GL := Lib.hid (fun (W : World) (hb : Below w.heap.size w W) => glast p F b t c ea en ec L W (h.mono hb) ho)
  obtain ⟨z, hz⟩ : ∃ z, (lsOf b t c L).last = z := ⟨_, rfl⟩
  rw [hz] at GL hx
  rw [hz] at hv
  have gz : IntKind.i64.wrap (z + 1) = z + 1 := by rw [IntKind.wrap_i64]; omega
  have H := Lib.hid h
  have HO := Lib.hid ho
  have HK := Lib.hid hk
  have HE := Lib.hid he
  have ES := Lib.hid en_size
  have hq1 : (e.ix == z + 1) = true := by simpa using hx
  have hq2 : (e.ix != z + 1) = false := by simpa using hx
  have HNE := Lib.hid (show e.n ≤ 140737488355000 by have := HK.out; unfold enOk at this; simp at this; omega)
  clear h ho hk he hz hv
  go_enter Tryz.func50, Tryz.ntmps50
  go_wp2_with (first
    | (with_reducible refine box_row (o := ⟨some 3, _, _, _, _, _⟩) rfl _ _ rfl e.cells rfl ?_; intro w1 hr1 hb1 hz1; have E1 := Lib.hid hr1; have B1 := Lib.hid hb1; clear hr1 hb1 hz1)
    | (go_at_call 51; refine (gready p F b t c ea en ec L w1 (H.out.mono B1.out) HO.out).mono ?_; rintro x w2 ⟨rfl, rfl⟩)
    | ((with_reducible refine load_row (o := ⟨some 8, _, _, _, _, _⟩) rfl _ _ rfl w.heap.size ?_ _ e.cells _ E1.out Tryz.underlying69 rfl ?_ ?_); (focus go_simp); (focus (exact ES.out)))
    | (go_at_call 88; (with_reducible refine (rentry e w1).mono ?_); rw [HK.out]; rintro x w3 ⟨rfl, hb⟩; have B3 := Lib.hid (B1.out.trans (hb.mono B1.out.size)); have E3 := Lib.hid (E1.out.below hb E1.out.lt); clear hb))
  refine region_h (fun v => Below w3.heap.size w3 v) (by kernel_rfl) (by kernel_rfl) (Below.refl _ _).drew ?_
  obtain ⟨wd, hwd⟩ : ∃ wd, w3.drew = wd := ⟨_, rfl⟩
  have D0 : Hid (Below w3.heap.size w3 wd) := Lib.hid (by rw [← hwd]; exact (Below.refl _ _).drew)
  rw [hwd]
  clear hwd
  (refine h_read 0 rfl (by kernel_rfl) (by kernel_rfl) (h_free rfl) ?_ ?_ ?_; rotate_left; (focus (intro v hv; go_simp; rfl)); go_simp)
  (refine h_read 1 rfl (by kernel_rfl) (by kernel_rfl) (h_free rfl) ?_ ?_ ?_; rotate_left; (focus (intro v hv; obtain ⟨e0, e1, e2, e3⟩ := (E3.out.below hv E3.out.lt).q4; go_simp; rfl)); go_simp)
  (refine h_read 2 rfl (by kernel_rfl) (by kernel_rfl) (h_free rfl) ?_ ?_ ?_; rotate_left; (focus (intro v hv; go_simp; rfl)); go_simp)
  (refine h_call 3 rfl (by kernel_rfl) (h_free rfl) 24 ?_ ?_ ?_; rotate_left; (focus (go_simp; rfl)))
  refine (GL.out wd (B3.out.trans (D0.out.mono B3.out.size))).mono ?_
  rintro x v1 ⟨rfl, hb⟩
  have J1 := Lib.hid (D0.out.trans (hb.mono D0.out.size))
  clear hb
  refine ⟨_, rfl, J1.out, ?_⟩
  go_simp
  (refine h_read 4 rfl (by kernel_rfl) (by kernel_rfl) (h_free rfl) ?_ ?_ ?_; rotate_left; (focus (intro v hv; go_simp; rfl)); go_simp)
  (refine h_read 5 rfl (by kernel_rfl) (by kernel_rfl) (h_free rfl) ?_ ?_ ?_; rotate_left; (focus (intro v hv; go_simp; rfl)); go_simp)
  refine h_done (by kernel_rfl) ?_
  go_wp2_with fail
  clear hq1 hq2 hx gz
  have V1 := Lib.hid (B3.out.trans (J1.out.mono B3.out.size))
  have EV := Lib.hid (E3.out.below J1.out E3.out.lt)
  have HV := Lib.hid (H.out.mono V1.out)
  refine region_t (fun v => Ft (fun k => ∃ off, ea = some ⟨k, off, none⟩) v1 v) 11 (by kernel_rfl) (by kernel_rfl) (by kernel_rfl) (Ft.of_below (Below.refl _ _).drew) ?_
  obtain ⟨we, hwe⟩ : ∃ wd, v1.drew = wd := ⟨_, rfl⟩
  have DW : Hid (Below v1.heap.size v1 we) := Lib.hid (by rw [← hwe]; exact (Below.refl _ _).drew)
  rw [hwe]
  clear hwe
  (refine t_read 0 rfl (by kernel_rfl) (by kernel_rfl) (by kernel_rfl) (t_free rfl) ?_ ?_ ?_; rotate_left; (focus (intro v hv; go_simp; rfl)); go_simp)
  (refine t_read 1 rfl (by kernel_rfl) (by kernel_rfl) (by kernel_rfl) (t_free rfl) ?_ ?_ ?_; rotate_left; (focus (intro v hv; go_simp; rfl)); go_simp)
  (refine t_read 2 rfl (by kernel_rfl) (by kernel_rfl) (by kernel_rfl) (t_free rfl) ?_ ?_ ?_; rotate_left; (focus (intro v hv; go_simp; rfl)); go_simp)
  (refine t_read 3 rfl (by kernel_rfl) (by kernel_rfl) (by kernel_rfl) (t_free rfl) ?_ ?_ ?_; rotate_left; (focus (intro v hv; go_simp; rfl)); go_simp)
  (refine t_read 4 rfl (by kernel_rfl) (by kernel_rfl) (by kernel_rfl) (t_free rfl) ?_ ?_ ?_; rotate_left; (focus (intro v hv; have q4 := (HV.out.row.ft hv (fun ⟨off, e⟩ => (HV.out.ne _ _ e).2 rfl)).c5.2.2.2.2; go_simp; rfl)); go_simp)
  (refine t_read 5 rfl (by kernel_rfl) (by kernel_rfl) (by kernel_rfl) (t_free rfl) ?_ ?_ ?_; rotate_left; (focus (intro v hv; refine load_all 69 (.tmp 3) ?_ w.heap.size ?_ _ e.cells _ (EV.out.ft hv (fun ⟨off, e⟩ => by have := HV.out.ne _ _ e; have := H.out.lt _ this.1; omega)) Tryz.underlying69 rfl en_size; (focus rfl); go_simp)); go_simp)
  (refine t_call 6 rfl (by kernel_rfl) rfl (t_free rfl) 87 ?_ ?_ ?_; rotate_left; (focus (go_simp; rfl)))
  refine (gcopied e l we (HE.out.rd.mono (V1.out.trans (DW.out.mono V1.out.size))) HNE.out).mono ?_
  rintro x w9 ⟨ra, rc, rfl, hrd, hfr, hb⟩
  have R9 := Lib.hid hrd
  have FR9 := Lib.hid hfr
  have D9 := Lib.hid (DW.out.trans (hb.mono DW.out.size))
  clear hrd hfr hb
  refine ⟨_, rfl, Ft.of_below D9.out, ?_⟩
  go_simp
  (refine t_list 7 rfl (by kernel_rfl) rfl ?_; intro K hK)
  refine build_en rfl _ rfl ⟨e.ix, e.tm, e.kd, ra, e.n, rc⟩ (by go_simp) ?_
  intro w10 hr10 hb10 hz10
  have A10 := Lib.hid hr10
  have Ra := Lib.hid (R9.out.mono hb10)
  have Da := Lib.hid (D9.out.trans (hb10.mono D9.out.size))
  clear hr10 hb10 hz10
  refine hK _ _ (Ft.of_below Da.out) ?_
  go_simp
  (refine t_list 8 rfl (by kernel_rfl) rfl ?_; intro K hK)
  have Oa := Lib.hid (HV.out.es.mono Da.out)
  refine append_en rfl _ _ rfl ea en ec (L.map (·.1)) (by go_simp) Oa.out (by omega) ⟨w9.heap.size, 0, none⟩ 1 ⟨e.ix, e.tm, e.kd, ra, e.n, rc⟩ (by go_simp) (fun j u hj => by rw [Go.WideShapes.add_plain, Nat.zero_add, A10.out.cellV]; exact hj) ?_
  intro ea' ec' w11 ho hcase
  have O11 := Lib.hid ho
  have G11 := Lib.hid (grow2 ⟨_, Oa⟩ hcase (by
    rcases hcase with ⟨g, h1, h2, -⟩ | ⟨h1, h2⟩
    · right; intro x hx; rw [h2] at hx; have := (HV.out.ne _ _ hx).1; have := HV.out.lt _ this; have := Da.out.size; omega
    · left
      rcases ho.2 with ⟨h3, -⟩ | ⟨g, R, h3, h4, -⟩
      · rw [h3] at h1; cases h1
      · have h5 := h4.lt
        rw [h3] at h1
        have : g = w10.heap.size := congrArg Addr.block (Option.some.inj h1)
        omega))
  clear ho hcase
  have Db := Lib.hid ((Ft.of_below Da.out : Ft (fun k => ∃ off, ea = some ⟨k, off, none⟩) v1 w10).trans G11.out.2.1)
  refine hK _ _ Db.out ?_
  go_simp
  (refine t_one 9 rfl (by kernel_rfl) rfl rfl ?_ ?_ ?_; rotate_left; (focus (go_simp; rfl)); go_simp)
  (refine t_read 10 rfl (by kernel_rfl) (by kernel_rfl) (by kernel_rfl) (t_free rfl) ?_ ?_ ?_; rotate_left; (focus (intro v hv; go_simp; rfl)); go_simp)
  (refine t_last 11 rfl (by kernel_rfl) rfl (by kernel_rfl) (by kernel_rfl) ?_; intro K hK)
  have Rp := Lib.hid (HV.out.row.ft Db.out (fun ⟨off, e⟩ => (HV.out.ne _ _ e).2 rfl))
  refine store_cell rfl _ _ _ rfl p 4 (.slice ea' (en + 1) ec') (by go_simp) (by go_simp) rfl rfl 89 _ Rp.out infoEns13 (by show 4 < 5; decide) ?_
  intro w12 hr12 hu12
  refine hK _ _ ?_
  have R12 : Hid (Row w12 p 89 [.bool true, .int .i64 b, .int .i64 t, .int .i64 c, .slice ea' (en + 1) ec']) := Lib.hid hr12
  have FT : Hid (Ft F w w12) := Lib.hid (((Ft.of_below V1.out).trans (Db.out.mono (fun k ⟨off, e⟩ => (HV.out.ne k off e).1))).trans (Ft.of_upd hu12 H.out.fp))
  have hpl := H.out.lt p H.out.fp
  have hp2 : p < w10.heap.size := by have := Da.out.size; have := V1.out.size; omega
  have N12 : Hid (∀ x off, ea' = some ⟨x, off, none⟩ → FG F w w12 x ∧ x ≠ p) := Lib.hid (fun x off e => by
    rcases G11.out.2.2 x off e with ⟨o, e2⟩ | ⟨h1, h2⟩
    · exact ⟨.inl (HV.out.ne x o e2).1, (HV.out.ne x o e2).2⟩
    · refine ⟨.inr ⟨by have := Da.out.size; have := V1.out.size; omega, by have := hu12.size; omega⟩, by omega⟩)
  have O12 := Lib.hid (O11.out.upd hu12 (fun x off e => (N12.out x off e).2))
  have Q12 := Lib.hid ((G11.out.1.rd Ra.out).put Rp.out (NB_lg _ _ _ _ _ _) hu12)
  have K12 := Lib.hid (fun x hx => EnF.put13 (G11.out.1.en ((HV.out.fit x hx).mono Da.out)) Rp.out (NB_lg _ _ _ _ _ _) hu12)
  have S12 := Lib.hid (show w12.heap.size = w11.heap.size from hu12.size)
  have S11 := Lib.hid G11.out.2.1.size
  have S9 := Lib.hid (show w.heap.size ≤ we.heap.size from Nat.le_trans V1.out.size DW.out.size)
  clear hr12 hu12
  go_simp
  go_wp2_with fail
  go_ret
  refine ⟨ea', ec', L ++ [((⟨e.ix, e.tm, e.kd, ra, e.n, rc⟩ : En), l)], rfl, ⟨R12.out, by rw [List.map_append]; exact O12.out, N12.out, ?_, ?_, .inl H.out.fp, ?_⟩, by simp [pe], FT.out⟩
  · intro x hx
    rcases List.mem_append.1 hx with hx | hx
    · exact K12.out x hx
    · rw [List.mem_singleton.1 hx]; exact ⟨HE.out.ix, HE.out.tm, HE.out.kd, Q12.out⟩
  · intro x hx hn0 k off e
    rcases List.mem_append.1 hx with hx | hx
    · exact .inl (H.out.fa x hx hn0 k off e)
    · rw [List.mem_singleton.1 hx] at e hn0
      refine .inr ⟨Nat.le_trans S9.out (FR9.out k off e), ?_⟩
      obtain ⟨b9, o9, h9, hlt9, -⟩ := Q12.out.lt_of hn0
      have e' : ra = some ⟨k, off, none⟩ := e
      rw [h9] at e'
      have : b9 = k := congrArg Addr.block (Option.some.inj e')
      omega
  · intro k hk
    rcases hk with hk | hk
    · exact Nat.lt_of_lt_of_le (H.out.lt k hk) FT.out.size
    · exact hk.2
end Go.Proofs.YtjkkopbhdeljmaaGreat.W

namespace Go.Proofs.YtjkkopbhdeljmaaGreat.W
open Go Go.ChangeShapes Go.WideShapes Go.ChangeAt Go.RowKit

/-- an entry that may be -/
def okPe (x : Pe) : Bool := inV x.1 1 2147483648 && (inV x.2.1 0 2147483648 && (inV x.2.2.1 0 2 && decide (x.2.2.2.length ≤ 4096)))
theorem okPe_en {e : En} {l : List UInt8} (h : l.length = e.n) : okPe (pe (e, l)) = enOk e := by unfold okPe enOk pe; rw [h]
/-- what Append makes -/
def LS.app (q : LS) (x : Pe) : LS × Int := if okPe x = false then (q, 1) else if x.1 = q.last + 1 then ({ q with l := q.l ++ [x] }, 0) else (q, 10)
/-- what New takes -/
def LS.apps (q : LS) : List Pe → LS
  | [] => q
  | x :: l => if (q.app x).2 = 0 then (q.app x).1.apps l else q
theorem rise_app : ∀ (l : List Pe) (b : Int) (x : Pe), rise b l → x.1 = b + l.length + 1 → rise b (l ++ [x])
  | [], b, x, _, hx => ⟨by simpa using hx, trivial⟩
  | y :: l, b, x, h, hx => ⟨h.1, rise_app l (b + 1) x h.2 (by rw [hx]; simp; omega)⟩
theorem LOK.app {q : LS} {x : Pe} (h : LOK q) (hn : q.l.length + 1 ≤ 200) : LOK (q.app x).1 := by
  unfold LS.app
  split
  · exact h
  · rename_i hok
    split
    · rename_i hx
      refine ⟨rise_app _ _ _ h.r (by rw [hx]; unfold LS.last; rfl), h.b, by simpa using hn, fun y hy => ?_⟩
      rcases List.mem_append.1 hy with hy | hy
      · exact h.x y hy
      · rw [List.mem_singleton.1 hy]
        unfold okPe at hok
        simp at hok; exact hok.2.2.2
    · exact h
theorem LS.app_b (q : LS) (x : Pe) : (q.app x).1.b = q.b ∧ (q.app x).1.t = q.t ∧ (q.app x).1.c = q.c := by
  unfold LS.app; split
  · exact ⟨rfl, rfl, rfl⟩
  · split <;> exact ⟨rfl, rfl, rfl⟩
theorem LS.app_len (q : LS) (x : Pe) : (q.app x).1.l.length ≤ q.l.length + 1 := by
  unfold LS.app; split
  · simp
  · split <;> simp
theorem LG.sub {w : World} {F F' : Nat → Prop} {p : Nat} {b t c : Int} {ea : Option Addr} {en ec : Nat} {L : List (En × List UInt8)} (h : LG w p F b t c ea en ec L) (h1 : ∀ k, F k → F' k) (h2 : ∀ k, F' k → k < w.heap.size) : LG w p F' b t c ea en ec L :=
  ⟨h.row, h.es, fun x off e => ⟨h1 x (h.ne x off e).1, (h.ne x off e).2⟩, h.fit, fun x hx hn k off e => h1 k (h.fa x hx hn k off e), h1 p h.fp, h2⟩
theorem FG.lt {F : Nat → Prop} {w w' : World} (h : ∀ k, F k → k < w.heap.size) (hs : w.heap.size ≤ w'.heap.size) : ∀ k, FG F w w' k → k < w'.heap.size := fun k hk => hk.elim (fun hf => Nat.lt_of_lt_of_le (h k hf) hs) (fun hf => hf.2)
theorem gappend (p : Nat) (F : Nat → Prop) (b t c : Int) (ea : Option Addr) (en ec : Nat) (L : List (En × List UInt8)) (e : En) (l : List UInt8) (w : World) (h : LG w p F b t c ea en ec L) (ho : LOK (lsOf b t c L)) (he : EnF w e l) :
    Calls Tryz.prog 50 #[.pointer (some ⟨p, 0, none⟩), .agg e.cells.toArray] w fun x w' => ∃ ea' en' ec' L', x = .returned (.int .i64 ((lsOf b t c L).app (pe (e, l))).2) ∧ LG w' p (FG F w w') b t c ea' en' ec' L' ∧ lsOf b t c L' = ((lsOf b t c L).app (pe (e, l))).1 ∧ Ft F w w' := by
  have hok := okPe_en he.rd.hlen
  unfold LS.app
  rw [hok]
  cases hk : enOk e with
  | false =>
    rw [if_pos rfl]
    refine (gappend_bad p F b t c ea en ec L e l w h ho hk).mono ?_
    rintro x w' ⟨rfl, hb⟩
    exact ⟨ea, en, ec, L, rfl, (h.mono hb).sub (fun k hk => .inl hk) (FG.lt h.lt hb.size), rfl, Ft.of_below hb⟩
  | true =>
    rw [if_neg (by decide)]
    by_cases hx : e.ix = (lsOf b t c L).last + 1
    · rw [if_pos (show (pe (e, l)).1 = _ from hx)]
      refine (gappend_ok p F b t c ea en ec L e l w h ho hk he hx).mono ?_
      rintro x w' ⟨ea', ec', L', rfl, hL, hp, hf⟩
      exact ⟨ea', en + 1, ec', L', rfl, hL, by unfold lsOf; rw [hp], hf⟩
    · rw [if_neg (show ¬ (pe (e, l)).1 = _ from hx)]
      refine (gappend_log p F b t c ea en ec L e l w h ho hk he hx).mono ?_
      rintro x w' ⟨rfl, hb⟩
      exact ⟨ea, en, ec, L, rfl, (h.mono hb).sub (fun k hk => .inl hk) (FG.lt h.lt hb.size), rfl, Ft.of_below hb⟩
theorem lg_built : Tryz.prog.built 89 [(0, .bool true)] = some [.bool true, .int .i64 0, .int .i64 0, .int .i64 0, .slice none 0 0].toArray := by kernel_rfl
theorem apps_stop {q : LS} {x : Pe} {l : List Pe} (h : (q.app x).2 ≠ 0) : q.apps (x :: l) = q := by
  show (if (q.app x).2 = 0 then _ else q) = q
  rw [if_neg h]
theorem apps_go {q : LS} {x : Pe} {l : List Pe} (h : (q.app x).2 = 0) : q.apps (x :: l) = (q.app x).1.apps l := by
  show (if (q.app x).2 = 0 then _ else q) = _
  rw [if_pos h]
theorem drop_pe (L : List (En × List UInt8)) (k : Nat) (hk : k < L.length) : (L.drop k).map pe = pe (L.getD k Ez) :: (L.drop (k + 1)).map pe := by
  have h1 : L.getD k Ez = L[k] := by simp [List.getD_eq_getElem?_getD, hk]
  rw [List.drop_eq_getElem_cons hk, h1]; rfl
set_option maxRecDepth 100000 in
set_option maxHeartbeats 8000000 in
theorem gnew (b t c : Int) (a : Option Addr) (n cp : Nat) (L0 : List (En × List UInt8)) (w : World) (h : Ents w a n cp L0) (hb : 0 ≤ b ∧ b ≤ 4294967296) (hn : n ≤ 100) :
    Calls Tryz.prog 20 #[.int .i64 b, .int .i64 t, .int .i64 c, .slice a n cp] w fun x w' => ∃ p F ea en ec L, x = .returned (.pointer (some ⟨p, 0, none⟩)) ∧ LG w' p F b t c ea en ec L ∧ lsOf b t c L = (lsOf b t c []).apps (L0.map pe) ∧ LOK (lsOf b t c L) ∧ L.length ≤ n ∧ (∀ k, F k → w.heap.size ≤ k) ∧ Below w.heap.size w w' := by
  have H := Lib.hid h
  have HL := Lib.hid h.hlen
  have EZ := Lib.hid en_zero
  have ES := Lib.hid en_size
  clear h
  go_enter Tryz.func20, Tryz.ntmps20
  go_wp2_with (first
    | ((with_reducible refine build_row (o := ⟨some 12, _, _, _, _, _⟩) rfl _ _ rfl [.bool true, .int .i64 0, .int .i64 0, .int .i64 0, .slice none 0 0] ?_ ?_); (focus (go_simp; exact lg_built)))
    | ((with_reducible refine box_row (o := ⟨some 13, _, _, _, _, _⟩) rfl _ _ rfl [.bool true, .int .i64 0, .int .i64 0, .int .i64 0, .slice none 0 0] ?_ ?_); (focus (first | rfl | (go_simp; done) | (go_simp; rfl))); intro w1 hr1 hb1 hz1; have R1 := Lib.hid hr1; have B1 := Lib.hid hb1; clear hr1 hb1 hz1)
    | (go_at_call 49; refine (greset w.heap.size (fun k => k = w.heap.size) 0 0 0 none 0 0 [] b t c w1 ⟨R1.out, EnO.nil _, (fun _ _ e => by cases e), (by simp), (by simp), rfl, fun k hk => by rw [hk]; exact R1.out.lt⟩ ⟨trivial, by decide, by decide, (by simp [lsOf])⟩).mono ?_; rintro x w2 ⟨⟨v, rfl⟩, hG, hu⟩; have G2 := Lib.hid hG; have B2 := Lib.hid (B1.out.trans (hu.below (Nat.le_refl _))); clear hG hu))
  have A2 : Hid (LG w2 w.heap.size (fun k => w.heap.size ≤ k ∧ k < w2.heap.size) b t c none 0 0 []) := Lib.hid (G2.out.sub (fun k hk => by rw [hk]; exact ⟨Nat.le_refl _, by rw [← hk]; exact G2.out.lt k hk⟩) (fun k hk => hk.2))
  have K2 : Hid (LOK (lsOf b t c [])) := Lib.hid ⟨trivial, hb, Nat.zero_le _, (by simp [lsOf])⟩
  clear G2 R1
  go_loopw [21] (fun i wr => ∃ (k : Nat) (ea : Option Addr) (en ec : Nat) (L : List (En × List UInt8)), i = .int .i64 (k : Int) ∧ k ≤ n ∧ en ≤ k ∧ Hid (LG wr w.heap.size (fun x => w.heap.size ≤ x ∧ x < wr.heap.size) b t c ea en ec L) ∧ Hid (LOK (lsOf b t c L)) ∧ Hid ((lsOf b t c []).apps (L0.map pe) = (lsOf b t c L).apps ((L0.drop k).map pe)) ∧ Hid (Below w.heap.size w wr)) (fun i _ => n - (intOf i).toNat)
  case atStart => exact ⟨0, none, 0, 0, [], rfl, Nat.zero_le _, Nat.le_refl _, A2, K2, Lib.hid rfl, B2⟩
  case round =>
    obtain ⟨k, ea, en, ec, L, rfl, hk, hek, HG, HK, HA, HB⟩ := hrel
    by_cases hlt : k < n
    · obtain ⟨x1, o1, rfl, hx1, hf1, hk1⟩ := H.out.at HB.out k hlt
      have hdr := drop_pe L0 k hk1
      obtain ⟨⟨e, l⟩, hq⟩ : ∃ y, L0.getD k Ez = y := ⟨_, rfl⟩
      rw [hq] at hx1 hf1 hdr
      dsimp only at hx1 hf1
      have X1 := Lib.hid hx1
      have F1 := Lib.hid hf1
      have HA2 := Lib.hid (HA.out.trans (by rw [hdr]))
      have HAn := Lib.hid (show (lsOf b t c L).l.length + 1 ≤ 200 by have := HG.out.len; show (L.map pe).length + 1 ≤ 200; rw [List.length_map]; omega)
      have g1 : (0 : Int) ≤ (k : Int) := by omega
      have g2 : (k : Int) < (n : Int) := by omega
      clear hx1 hf1 hq hdr hk1
      obtain ⟨er, her⟩ : ∃ er, ((lsOf b t c L).app (pe (e, l))).2 = er := ⟨_, rfl⟩
      have HER := Lib.hid her
      clear her
      by_cases hz : er = 0
      · have hz1 : (er == 0) = true := by simpa using hz
        have hz2 : (er != 0) = false := by simpa using hz
        go_wp2_with (first
          | ((with_reducible refine load_cells (o := ⟨some 24, _, _, _, _, _⟩) rfl _ _ rfl x1 (o1 + k * 4) ?_ e.cells _ X1.out Tryz.underlying69 rfl ?_ ?_); (focus go_simp); (focus (exact ES.out)))
            | ((with_reducible refine alloc_row (o := ⟨some 11, _, _, _, _, _⟩) rfl _ rfl _ EZ.out ?_); intro w2 hr hb hz; have E2 := Lib.hid hr; have G2 := Lib.hid (HG.out.mono hb); have B2' := Lib.hid (HB.out.trans (hb.mono HB.out.size)); have F2 := Lib.hid (F1.out.mono hb); clear hr hb hz)
            | ((with_reducible refine store_row (o := ⟨none, _, _, _, _, _⟩) rfl _ (.tmp 11) _ rfl wr.heap.size e.cells ?_ ?_ 69 _ E2.out ?_ ?_ (cells_one _) ?_); (focus go_simp); (focus (first | (go_simp; done) | (go_simp; rfl))); (focus (exact ES.out)); (focus rfl); intro w3 hr hu; have E3 := Lib.hid hr; have G3 := Lib.hid (G2.out.ft (Ft.of_upd (F := fun k => k = wr.heap.size) hu rfl) (fun x hx hg => by have := hx.2; rw [hg] at this; exact Nat.lt_irrefl _ this)); have F3 := Lib.hid (F2.out.put13 E2.out (NB_en _ _ _ _ _ _) hu); have B3 := Lib.hid (B2'.out.trans (hu.below HB.out.size)); have S3 := Lib.hid (show wr.heap.size ≤ w3.heap.size from (by have h1 := E2.out.lt; have h2 := hu.size; omega)); clear hr hu)
            | ((with_reducible refine load_row (o := ⟨some 26, _, _, _, _, _⟩) rfl _ _ rfl wr.heap.size ?_ _ e.cells _ E3.out Tryz.underlying69 rfl ?_ ?_); (focus go_simp); (focus (exact ES.out)))
            | (go_at_call 50; refine (gappend w.heap.size _ b t c ea en ec L e l w3 G3.out HK.out F3.out).mono ?_; rw [HER.out]; rintro x w4 ⟨ea', en', ec', L', rfl, hG, heq, hft⟩; have EQ4 := Lib.hid heq; have B4 := Lib.hid (B3.out.trans (hft.below B3.out.size (fun k hk => hk.1))); have G4 : Hid (LG w4 w.heap.size (fun x => w.heap.size ≤ x ∧ x < w4.heap.size) b t c ea' en' ec' L') := Lib.hid (hG.sub (fun k hk => hk.elim (fun h => ⟨h.1, by have := hft.size; have := S3.out; have := h.2; omega⟩) (fun h => ⟨Nat.le_trans B3.out.size h.1, h.2⟩)) (fun k hk => hk.2)); clear hG heq hft))
        go_roundw
        case rel =>
          refine ⟨k + 1, ea', en', ec', L', vint (by omega), by omega, ?_, G4, Lib.hid (by rw [EQ4.out]; exact HK.out.app HAn.out), Lib.hid ?_, B4⟩
          · have h1 := LS.app_len (lsOf b t c L) (pe (e, l))
            rw [← EQ4.out] at h1
            have h2 : (lsOf b t c L').l.length = en' := by show (L'.map pe).length = en'; rw [List.length_map]; exact G4.out.len
            have h3 : (lsOf b t c L).l.length = en := by show (L.map pe).length = en; rw [List.length_map]; exact HG.out.len
            omega
          · rw [HA2.out, apps_go (by rw [HER.out]; exact hz), EQ4.out]
        case measure => simp [intOf]; omega
      · have hz1 : (er == 0) = false := by simpa using hz
        have hz2 : (er != 0) = true := by simpa using hz
        go_wp2_with (first
          | ((with_reducible refine load_cells (o := ⟨some 24, _, _, _, _, _⟩) rfl _ _ rfl x1 (o1 + k * 4) ?_ e.cells _ X1.out Tryz.underlying69 rfl ?_ ?_); (focus go_simp); (focus (exact ES.out)))
            | ((with_reducible refine alloc_row (o := ⟨some 11, _, _, _, _, _⟩) rfl _ rfl _ EZ.out ?_); intro w2 hr hb hz; have E2 := Lib.hid hr; have G2 := Lib.hid (HG.out.mono hb); have B2' := Lib.hid (HB.out.trans (hb.mono HB.out.size)); have F2 := Lib.hid (F1.out.mono hb); clear hr hb hz)
            | ((with_reducible refine store_row (o := ⟨none, _, _, _, _, _⟩) rfl _ (.tmp 11) _ rfl wr.heap.size e.cells ?_ ?_ 69 _ E2.out ?_ ?_ (cells_one _) ?_); (focus go_simp); (focus (first | (go_simp; done) | (go_simp; rfl))); (focus (exact ES.out)); (focus rfl); intro w3 hr hu; have E3 := Lib.hid hr; have G3 := Lib.hid (G2.out.ft (Ft.of_upd (F := fun k => k = wr.heap.size) hu rfl) (fun x hx hg => by have := hx.2; rw [hg] at this; exact Nat.lt_irrefl _ this)); have F3 := Lib.hid (F2.out.put13 E2.out (NB_en _ _ _ _ _ _) hu); have B3 := Lib.hid (B2'.out.trans (hu.below HB.out.size)); have S3 := Lib.hid (show wr.heap.size ≤ w3.heap.size from (by have h1 := E2.out.lt; have h2 := hu.size; omega)); clear hr hu)
            | ((with_reducible refine load_row (o := ⟨some 26, _, _, _, _, _⟩) rfl _ _ rfl wr.heap.size ?_ _ e.cells _ E3.out Tryz.underlying69 rfl ?_ ?_); (focus go_simp); (focus (exact ES.out)))
            | (go_at_call 50; refine (gappend w.heap.size _ b t c ea en ec L e l w3 G3.out HK.out F3.out).mono ?_; rw [HER.out]; rintro x w4 ⟨ea', en', ec', L', rfl, hG, heq, hft⟩; have EQ4 := Lib.hid heq; have B4 := Lib.hid (B3.out.trans (hft.below B3.out.size (fun k hk => hk.1))); have G4 : Hid (LG w4 w.heap.size (fun x => w.heap.size ≤ x ∧ x < w4.heap.size) b t c ea' en' ec' L') := Lib.hid (hG.sub (fun k hk => hk.elim (fun h => ⟨h.1, by have := hft.size; have := S3.out; have := h.2; omega⟩) (fun h => ⟨Nat.le_trans B3.out.size h.1, h.2⟩)) (fun k hk => hk.2)); clear hG heq hft))
        go_ret
        have hst := HA2.out.trans (apps_stop (by rw [HER.out]; exact hz))
        have hsame : ((lsOf b t c L).app (pe (e, l))).1 = lsOf b t c L := by
          have h1 := HER.out
          revert h1
          unfold LS.app
          split
          · intro _; rfl
          · split
            · intro h1; exact absurd h1.symm hz
            · intro _; rfl
        have h2 : (lsOf b t c L').l.length = en' := by show (L'.map pe).length = en'; rw [List.length_map]; exact G4.out.len
        have h3 : (lsOf b t c L).l.length = en := by show (L.map pe).length = en; rw [List.length_map]; exact HG.out.len
        have h4 := EQ4.out.trans hsame
        exact ⟨w.heap.size, _, ea', en', ec', L', rfl, G4.out, by rw [h4, hst], by rw [h4]; exact HK.out, by rw [G4.out.len]; rw [h4] at h2; omega, fun x hx => hx.1, B4.out⟩
    · obtain rfl : k = n := by omega
      go_wp2_with fail
      go_ret
      have h1 := HA.out
      rw [List.drop_of_length_le (by rw [HL.out]; exact Nat.le_refl _)] at h1
      exact ⟨w.heap.size, _, ea, en, ec, L, rfl, HG.out, h1.symm, HK.out, by rw [HG.out.len]; exact hek, fun x hx => hx.1, HB.out⟩
end Go.Proofs.YtjkkopbhdeljmaaGreat.W
