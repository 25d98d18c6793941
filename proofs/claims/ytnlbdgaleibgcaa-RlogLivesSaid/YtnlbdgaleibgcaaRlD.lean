/- LAYER 13 (rlog): Reset, Append, New of the program. -/
import Derived.Test.YtnlbdgaleibgcaaRlA
import Derived.Test.YtnlbdgaleibgcaaRlC
import Derived.Test.YtnlbdgaleibgcaaRcW
import Derived.Test.YtnlbdgaleibgcaaSt
set_option linter.unusedSimpArgs false
set_option linter.unusedVariables false
namespace Go.Proofs.Ytnlbdgaleibgcaa.W
open Go Go.ChangeShapes Go.WideShapes Go.ChangeAt Go.RowKit

theorem NB_lg (b t c : Int) (ea : Option Addr) (en ec : Nat) : NB [.bool true, .int .i64 b, .int .i64 t, .int .i64 c, .slice ea en ec] := by
  intro x hx
  simp [B] at hx
theorem EnF.put13 {w w' : World} {e : En} {l : List UInt8} {g : Nat} {t : TypeId} {L : List Value} (h : EnF w e l) (hq : Row w g t L) (hnb : NB L) (hu : Upd w w' g) : EnF w' e l := ⟨h.ix, h.tm, h.kd, h.rd.put hq hnb hu⟩
/-- F, and what is new in w' -/
def FG (F : Nat → Prop) (w w' : World) : Nat → Prop := fun k => F k ∨ (w.heap.size ≤ k ∧ k < w'.heap.size)
theorem FG.sub {F : Nat → Prop} {w w' : World} {k : Nat} (h : F k) : FG F w w' k := .inl h
structure GE2 (w w' : World) : Prop where
  rd : ∀ {a : Option Addr} {n c : Nat} {l : List UInt8}, Rd w a n c l → Rd w' a n c l
theorem GE2.en {w w' : World} (h : GE2 w w') {e : En} {l : List UInt8} (k : EnF w e l) : EnF w' e l := ⟨k.ix, k.tm, k.kd, h.rd k.rd⟩
theorem grow2 {w w' : World} {ea ea' : Option Addr} {en ec ec' : Nat} (hO : ∃ M, Hid (EnO w ea en ec M)) (h : (∃ g, ea = some ⟨g, 0, none⟩ ∧ ea' = ea ∧ ec' = ec ∧ en < ec ∧ Upd w w' g) ∨ (ea' = some ⟨w.heap.size, 0, none⟩ ∧ Below w.heap.size w w')) (hn : w.heap.size < w'.heap.size ∨ ∀ x, ea' ≠ some ⟨w.heap.size, x, none⟩) :
    GE2 w w' ∧ Ft (fun k => ∃ off, ea = some ⟨k, off, none⟩) w w' ∧ (∀ x off, ea' = some ⟨x, off, none⟩ → (∃ o, ea = some ⟨x, o, none⟩) ∨ (w.heap.size ≤ x ∧ x < w'.heap.size)) := by
  rcases h with ⟨g, rfl, rfl, -, -, hu⟩ | ⟨rfl, hb⟩
  · obtain ⟨M, hM⟩ := hO
    rcases hM.out.2 with ⟨h0, -⟩ | ⟨g', R, he, hr, -⟩
    · cases h0
    · have : g = g' := congrArg Addr.block (Option.some.inj he)
      subst this
      exact ⟨⟨fun h => h.put hr (NB_flat _) hu⟩, Ft.of_upd hu ⟨0, rfl⟩, fun x off e => .inl ⟨off, e⟩⟩
  · refine ⟨⟨fun h => h.mono hb⟩, Ft.of_below hb, fun x off e => .inr ?_⟩
    have : w.heap.size = x := congrArg Addr.block (Option.some.inj e)
    rcases hn with hn | hn
    · exact ⟨by omega, by omega⟩
    · exact absurd rfl (hn 0)
theorem infoEns13 : (Try.prog.info? 22).map (·.size) = some 1 := by kernel_rfl
theorem base_size : (Try.prog.info? 53).map (·.size) = some 3 := by kernel_rfl
theorem lg_size : (Try.prog.info? 55).map (·.size) = some 5 := by kernel_rfl
theorem built_base (a b c : Int) : Try.prog.built 53 [(0, .int .i64 a), (1, .int .i64 b), (2, .int .i64 c)] = some [.int .i64 a, .int .i64 b, .int .i64 c].toArray := by kernel_rfl
theorem int3_one (a b c : Int) : ∀ v ∈ [Value.int .i64 a, .int .i64 b, .int .i64 c], v.oneCell' = true := by
  intro v hv
  simp at hv
  rcases hv with rfl | rfl | rfl <;> rfl
set_option maxRecDepth 100000 in
set_option maxHeartbeats 4000000 in
theorem greset (p : Nat) (F : Nat → Prop) (b t c : Int) (ea : Option Addr) (en ec : Nat) (L : List (En × List UInt8)) (b' t' c' : Int) (w : World) (h : LG w p F b t c ea en ec L) (ho : LOK (lsOf b t c L)) :
    Calls Try.prog 20 #[.pointer (some ⟨p, 0, none⟩), .int .i64 b', .int .i64 t', .int .i64 c'] w fun x w' => (∃ v, x = .returned v) ∧ LG w' p F b' t' c' none 0 0 [] ∧ Upd w w' p := by
  have RD := Lib.hid (gready p F b t c ea en ec L w h ho)
  have H := Lib.hid h
  have BS := Lib.hid base_size
  clear h ho
  go_enter Try.func20, Try.ntmps20
  go_wp2_with (first
    | (go_at_call 41; refine RD.out.mono ?_; rintro x w1 ⟨rfl, rfl⟩)
    | ((with_reducible refine build_row (o := ⟨some 16, _, _, _, _, _⟩) rfl _ _ rfl [.int .i64 b', .int .i64 t', .int .i64 c'] ?_ ?_); (focus (go_simp; exact built_base b' t' c')))
    | ((with_reducible refine store_part (o := ⟨none, _, _, _, _, _⟩) rfl _ (.tmp 18) _ rfl p 1 [.int .i64 b', .int .i64 t', .int .i64 c'] ?_ ?_ 55 _ H.out.row ?_ ?_ (int3_one _ _ _) ?_); (focus go_simp); (focus (first | (go_simp; done) | (go_simp; rfl))); (focus (exact BS.out)); (focus (show 1 + 3 ≤ 5; decide)); intro w2 hr hu; have R2 : Hid (Row w2 p 55 [.bool true, .int .i64 b', .int .i64 t', .int .i64 c', .slice ea en ec]) := Lib.hid hr; have U2 := Lib.hid hu; clear hr hu; have f4 := R2.out.frozen 4; obtain ⟨c0, c1, c2, c3, c4⟩ := R2.out.c5))
  first | go_end0 | (refine bodyPost_ret (results_none rfl _ _ _) rfl ?_)
  refine ⟨⟨_, rfl⟩, ⟨R2.out.setV 4 (.slice none 0 0), EnO.nil _, (fun _ _ e => by cases e), (by simp), (by simp), H.out.fp, fun k hk => ?_⟩, U2.out.trans (Upd.setCell _ _ _ _)⟩
  have := H.out.lt k hk
  have := U2.out.size
  simp [World.setCell]; omega
set_option maxRecDepth 100000 in
set_option maxHeartbeats 8000000 in
theorem gappend_bad (p : Nat) (F : Nat → Prop) (b t c : Int) (ea : Option Addr) (en ec : Nat) (L : List (En × List UInt8)) (e : En) (l : List UInt8) (w : World) (h : LG w p F b t c ea en ec L) (ho : LOK (lsOf b t c L)) (hk : enOk e = false) :
    Calls Try.prog 14 #[.pointer (some ⟨p, 0, none⟩), .agg e.cells.toArray] w fun x w' => x = .returned (.int .i64 1) ∧ Below w.heap.size w w' := by
  have H := Lib.hid h
  have HO := Lib.hid ho
  have HK := Lib.hid hk
  have ES := Lib.hid en_size
  clear h ho hk
  go_enter Try.func14, Try.ntmps14
  go_wp2_with (first
    | (with_reducible refine box_row (o := ⟨some 3, _, _, _, _, _⟩) rfl _ _ rfl e.cells rfl ?_; intro w1 hr1 hb1 hz1; have E1 := Lib.hid hr1; have B1 := Lib.hid hb1; clear hr1 hb1 hz1)
    | (go_at_call 41; refine (gready p F b t c ea en ec L w1 (H.out.mono B1.out) HO.out).mono ?_; rintro x w2 ⟨rfl, rfl⟩)
    | ((with_reducible refine load_row (o := ⟨some 8, _, _, _, _, _⟩) rfl _ _ rfl w.heap.size ?_ _ e.cells _ E1.out Try.underlying34 rfl ?_ ?_); (focus go_simp); (focus (exact ES.out)))
    | (go_at_call 42; (with_reducible refine (rentry e w1).mono ?_); rw [HK.out]; rintro x w3 ⟨rfl, hb⟩; have B3 := Lib.hid (B1.out.trans (hb.mono B1.out.size)); clear hb))
  go_ret
  exact ⟨rfl, B3.out⟩
set_option maxRecDepth 100000 in
set_option maxHeartbeats 8000000 in
theorem gappend_log (p : Nat) (F : Nat → Prop) (b t c : Int) (ea : Option Addr) (en ec : Nat) (L : List (En × List UInt8)) (e : En) (l : List UInt8) (w : World) (h : LG w p F b t c ea en ec L) (ho : LOK (lsOf b t c L)) (hk : enOk e = true) (he : EnF w e l) (hx : e.ix ≠ (lsOf b t c L).last + 1) :
    Calls Try.prog 14 #[.pointer (some ⟨p, 0, none⟩), .agg e.cells.toArray] w fun x w' => x = .returned (.int .i64 10) ∧ Below w.heap.size w w' := by
  have hv : (lsOf b t c L).last = b + (en : Int) := by unfold LS.last lsOf; dsimp only; rw [List.length_map, h.len]
  have hb := ho.b
  have hn := ho.n
  rw [show (lsOf b t c L).l.length = en by rw [← h.len]; simp [lsOf]] at hn
  dsimp only [lsOf] at hb
  have GL := Lib.hid (fun (W : World) (hb : Below w.heap.size w W) => glast p F b t c ea en ec L W (h.mono hb) ho)
  obtain ⟨z, hz⟩ : ∃ z, (lsOf b t c L).last = z := ⟨_, rfl⟩
  rw [hz] at GL hx
  rw [hz] at hv
  have gz : IntKind.i64.wrap (z + 1) = z + 1 := by rw [IntKind.wrap_i64]; omega
  have H := Lib.hid h
  have HO := Lib.hid ho
  have HK := Lib.hid hk
  have HE := Lib.hid he
  have ES := Lib.hid en_size
  have hq1 : (e.ix == z + 1) = false := by simpa using hx
  have hq2 : (e.ix != z + 1) = true := by simpa using hx
  clear h ho hk he hz hv
  go_enter Try.func14, Try.ntmps14
  go_wp2_with (first
    | (with_reducible refine box_row (o := ⟨some 3, _, _, _, _, _⟩) rfl _ _ rfl e.cells rfl ?_; intro w1 hr1 hb1 hz1; have E1 := Lib.hid hr1; have B1 := Lib.hid hb1; clear hr1 hb1 hz1)
    | (go_at_call 41; refine (gready p F b t c ea en ec L w1 (H.out.mono B1.out) HO.out).mono ?_; rintro x w2 ⟨rfl, rfl⟩)
    | ((with_reducible refine load_row (o := ⟨some 8, _, _, _, _, _⟩) rfl _ _ rfl w.heap.size ?_ _ e.cells _ E1.out Try.underlying34 rfl ?_ ?_); (focus go_simp); (focus (exact ES.out)))
    | (go_at_call 42; (with_reducible refine (rentry e w1).mono ?_); rw [HK.out]; rintro x w3 ⟨rfl, hb⟩; have B3 := Lib.hid (B1.out.trans (hb.mono B1.out.size)); have E3 := Lib.hid (E1.out.below hb E1.out.lt); clear hb))
  refine region_h (fun v => Below w3.heap.size w3 v) (by kernel_rfl) (by kernel_rfl) (Below.refl _ _).drew ?_
  obtain ⟨wd, hwd⟩ : ∃ wd, w3.drew = wd := ⟨_, rfl⟩
  have D0 : Hid (Below w3.heap.size w3 wd) := Lib.hid (by rw [← hwd]; exact (Below.refl _ _).drew)
  rw [hwd]
  clear hwd
  (refine h_read 0 rfl (by kernel_rfl) (by kernel_rfl) (h_free rfl) ?_ ?_ ?_; rotate_left; (focus (intro v hv; go_simp; rfl)); go_simp)
  (refine h_read 1 rfl (by kernel_rfl) (by kernel_rfl) (h_free rfl) ?_ ?_ ?_; rotate_left; (focus (intro v hv; obtain ⟨e0, e1, e2, e3⟩ := (E3.out.below hv E3.out.lt).q4; go_simp; rfl)); go_simp)
  (refine h_read 2 rfl (by kernel_rfl) (by kernel_rfl) (h_free rfl) ?_ ?_ ?_; rotate_left; (focus (intro v hv; go_simp; rfl)); go_simp)
  (refine h_call 3 rfl (by kernel_rfl) (h_free rfl) 30 ?_ ?_ ?_; rotate_left; (focus (go_simp; rfl)))
  refine (GL.out wd (B3.out.trans (D0.out.mono B3.out.size))).mono ?_
  rintro x v1 ⟨rfl, hb⟩
  have J1 := Lib.hid (D0.out.trans (hb.mono D0.out.size))
  clear hb
  refine ⟨_, rfl, J1.out, ?_⟩
  go_simp
  (refine h_read 4 rfl (by kernel_rfl) (by kernel_rfl) (h_free rfl) ?_ ?_ ?_; rotate_left; (focus (intro v hv; go_simp; rfl)); go_simp)
  (refine h_read 5 rfl (by kernel_rfl) (by kernel_rfl) (h_free rfl) ?_ ?_ ?_; rotate_left; (focus (intro v hv; go_simp; rfl)); go_simp)
  refine h_done (by kernel_rfl) ?_
  go_wp2_with fail
  go_ret
  exact ⟨rfl, B3.out.trans (J1.out.mono B3.out.size)⟩
set_option maxRecDepth 100000 in
set_option maxHeartbeats 8000000 in
theorem gappend_ok (p : Nat) (F : Nat → Prop) (b t c : Int) (ea : Option Addr) (en ec : Nat) (L : List (En × List UInt8)) (e : En) (l : List UInt8) (w : World) (h : LG w p F b t c ea en ec L) (ho : LOK (lsOf b t c L)) (hk : enOk e = true) (he : EnF w e l) (hx : e.ix = (lsOf b t c L).last + 1) :
    Calls Try.prog 14 #[.pointer (some ⟨p, 0, none⟩), .agg e.cells.toArray] w fun x w' => ∃ ea' ec' L', x = .returned (.int .i64 0) ∧ LG w' p (FG F w w') b t c ea' (en + 1) ec' L' ∧ L'.map pe = L.map pe ++ [pe (e, l)] ∧ Ft F w w' := by
  have hv : (lsOf b t c L).last = b + (en : Int) := by unfold LS.last lsOf; dsimp only; rw [List.length_map, h.len]
  have hb := ho.b
  have hn := ho.n
  rw [show (lsOf b t c L).l.length = en by rw [← h.len]; simp [lsOf]] at hn
  dsimp only [lsOf] at hb
  have GL := Lib.hid (fun (W : World) (hb : Below w.heap.size w W) => glast p F b t c ea en ec L W (h.mono hb) ho)
  obtain ⟨z, hz⟩ : ∃ z, (lsOf b t c L).last = z := ⟨_, rfl⟩
  rw [hz] at GL hx
  rw [hz] at hv
  have gz : IntKind.i64.wrap (z + 1) = z + 1 := by rw [IntKind.wrap_i64]; omega
  have H := Lib.hid h
  have HO := Lib.hid ho
  have HK := Lib.hid hk
  have HE := Lib.hid he
  have ES := Lib.hid en_size
  have hq1 : (e.ix == z + 1) = true := by simpa using hx
  have hq2 : (e.ix != z + 1) = false := by simpa using hx
  have HNE := Lib.hid (show e.n ≤ 140737488355000 by have := HK.out; unfold enOk at this; simp at this; omega)
  clear h ho hk he hz hv
  go_enter Try.func14, Try.ntmps14
  go_wp2_with (first
    | (with_reducible refine box_row (o := ⟨some 3, _, _, _, _, _⟩) rfl _ _ rfl e.cells rfl ?_; intro w1 hr1 hb1 hz1; have E1 := Lib.hid hr1; have B1 := Lib.hid hb1; clear hr1 hb1 hz1)
    | (go_at_call 41; refine (gready p F b t c ea en ec L w1 (H.out.mono B1.out) HO.out).mono ?_; rintro x w2 ⟨rfl, rfl⟩)
    | ((with_reducible refine load_row (o := ⟨some 8, _, _, _, _, _⟩) rfl _ _ rfl w.heap.size ?_ _ e.cells _ E1.out Try.underlying34 rfl ?_ ?_); (focus go_simp); (focus (exact ES.out)))
    | (go_at_call 42; (with_reducible refine (rentry e w1).mono ?_); rw [HK.out]; rintro x w3 ⟨rfl, hb⟩; have B3 := Lib.hid (B1.out.trans (hb.mono B1.out.size)); have E3 := Lib.hid (E1.out.below hb E1.out.lt); clear hb))
  refine region_h (fun v => Below w3.heap.size w3 v) (by kernel_rfl) (by kernel_rfl) (Below.refl _ _).drew ?_
  obtain ⟨wd, hwd⟩ : ∃ wd, w3.drew = wd := ⟨_, rfl⟩
  have D0 : Hid (Below w3.heap.size w3 wd) := Lib.hid (by rw [← hwd]; exact (Below.refl _ _).drew)
  rw [hwd]
  clear hwd
  (refine h_read 0 rfl (by kernel_rfl) (by kernel_rfl) (h_free rfl) ?_ ?_ ?_; rotate_left; (focus (intro v hv; go_simp; rfl)); go_simp)
  (refine h_read 1 rfl (by kernel_rfl) (by kernel_rfl) (h_free rfl) ?_ ?_ ?_; rotate_left; (focus (intro v hv; obtain ⟨e0, e1, e2, e3⟩ := (E3.out.below hv E3.out.lt).q4; go_simp; rfl)); go_simp)
  (refine h_read 2 rfl (by kernel_rfl) (by kernel_rfl) (h_free rfl) ?_ ?_ ?_; rotate_left; (focus (intro v hv; go_simp; rfl)); go_simp)
  (refine h_call 3 rfl (by kernel_rfl) (h_free rfl) 30 ?_ ?_ ?_; rotate_left; (focus (go_simp; rfl)))
  refine (GL.out wd (B3.out.trans (D0.out.mono B3.out.size))).mono ?_
  rintro x v1 ⟨rfl, hb⟩
  have J1 := Lib.hid (D0.out.trans (hb.mono D0.out.size))
  clear hb
  refine ⟨_, rfl, J1.out, ?_⟩
  go_simp
  (refine h_read 4 rfl (by kernel_rfl) (by kernel_rfl) (h_free rfl) ?_ ?_ ?_; rotate_left; (focus (intro v hv; go_simp; rfl)); go_simp)
  (refine h_read 5 rfl (by kernel_rfl) (by kernel_rfl) (h_free rfl) ?_ ?_ ?_; rotate_left; (focus (intro v hv; go_simp; rfl)); go_simp)
  refine h_done (by kernel_rfl) ?_
  go_wp2_with fail
  clear hq1 hq2 hx gz
  have V1 := Lib.hid (B3.out.trans (J1.out.mono B3.out.size))
  have EV := Lib.hid (E3.out.below J1.out E3.out.lt)
  have HV := Lib.hid (H.out.mono V1.out)
  refine region_t (fun v => Ft (fun k => ∃ off, ea = some ⟨k, off, none⟩) v1 v) 11 (by kernel_rfl) (by kernel_rfl) (by kernel_rfl) (Ft.of_below (Below.refl _ _).drew) ?_
  obtain ⟨we, hwe⟩ : ∃ wd, v1.drew = wd := ⟨_, rfl⟩
  have DW : Hid (Below v1.heap.size v1 we) := Lib.hid (by rw [← hwe]; exact (Below.refl _ _).drew)
  rw [hwe]
  clear hwe
  (refine t_read 0 rfl (by kernel_rfl) (by kernel_rfl) (by kernel_rfl) (t_free rfl) ?_ ?_ ?_; rotate_left; (focus (intro v hv; go_simp; rfl)); go_simp)
  (refine t_read 1 rfl (by kernel_rfl) (by kernel_rfl) (by kernel_rfl) (t_free rfl) ?_ ?_ ?_; rotate_left; (focus (intro v hv; go_simp; rfl)); go_simp)
  (refine t_read 2 rfl (by kernel_rfl) (by kernel_rfl) (by kernel_rfl) (t_free rfl) ?_ ?_ ?_; rotate_left; (focus (intro v hv; go_simp; rfl)); go_simp)
  (refine t_read 3 rfl (by kernel_rfl) (by kernel_rfl) (by kernel_rfl) (t_free rfl) ?_ ?_ ?_; rotate_left; (focus (intro v hv; go_simp; rfl)); go_simp)
  (refine t_read 4 rfl (by kernel_rfl) (by kernel_rfl) (by kernel_rfl) (t_free rfl) ?_ ?_ ?_; rotate_left; (focus (intro v hv; have q4 := (HV.out.row.ft hv (fun ⟨off, e⟩ => (HV.out.ne _ _ e).2 rfl)).c5.2.2.2.2; go_simp; rfl)); go_simp)
  (refine t_read 5 rfl (by kernel_rfl) (by kernel_rfl) (by kernel_rfl) (t_free rfl) ?_ ?_ ?_; rotate_left; (focus (intro v hv; refine load_all 34 (.tmp 3) ?_ w.heap.size ?_ _ e.cells _ (EV.out.ft hv (fun ⟨off, e⟩ => by have := HV.out.ne _ _ e; have := H.out.lt _ this.1; omega)) Try.underlying34 rfl en_size; (focus rfl); go_simp)); go_simp)
  (refine t_call 6 rfl (by kernel_rfl) rfl (t_free rfl) 43 ?_ ?_ ?_; rotate_left; (focus (go_simp; rfl)))
  refine (gcopied e l we (HE.out.rd.mono (V1.out.trans (DW.out.mono V1.out.size))) HNE.out).mono ?_
  rintro x w9 ⟨ra, rc, rfl, hrd, hfr, hb⟩
  have R9 := Lib.hid hrd
  have FR9 := Lib.hid hfr
  have D9 := Lib.hid (DW.out.trans (hb.mono DW.out.size))
  clear hrd hfr hb
  refine ⟨_, rfl, Ft.of_below D9.out, ?_⟩
  go_simp
  (refine t_list 7 rfl (by kernel_rfl) rfl ?_; intro K hK)
  refine build_en rfl _ rfl ⟨e.ix, e.tm, e.kd, ra, e.n, rc⟩ (by go_simp) ?_
  intro w10 hr10 hb10 hz10
  have A10 := Lib.hid hr10
  have Ra := Lib.hid (R9.out.mono hb10)
  have Da := Lib.hid (D9.out.trans (hb10.mono D9.out.size))
  clear hr10 hb10 hz10
  refine hK _ _ (Ft.of_below Da.out) ?_
  go_simp
  (refine t_list 8 rfl (by kernel_rfl) rfl ?_; intro K hK)
  have Oa := Lib.hid (HV.out.es.mono Da.out)
  refine append_en rfl _ _ rfl ea en ec (L.map (·.1)) (by go_simp) Oa.out (by omega) ⟨w9.heap.size, 0, none⟩ 1 ⟨e.ix, e.tm, e.kd, ra, e.n, rc⟩ (by go_simp) (fun j u hj => by rw [Go.WideShapes.add_plain, Nat.zero_add, A10.out.cellV]; exact hj) ?_
  intro ea' ec' w11 ho hcase
  have O11 := Lib.hid ho
  have G11 := Lib.hid (grow2 ⟨_, Oa⟩ hcase (by
    rcases hcase with ⟨g, h1, h2, -⟩ | ⟨h1, h2⟩
    · right; intro x hx; rw [h2] at hx; have := (HV.out.ne _ _ hx).1; have := HV.out.lt _ this; have := Da.out.size; omega
    · left
      rcases ho.2 with ⟨h3, -⟩ | ⟨g, R, h3, h4, -⟩
      · rw [h3] at h1; cases h1
      · have h5 := h4.lt
        rw [h3] at h1
        have : g = w10.heap.size := congrArg Addr.block (Option.some.inj h1)
        omega))
  clear ho hcase
  have Db := Lib.hid ((Ft.of_below Da.out : Ft (fun k => ∃ off, ea = some ⟨k, off, none⟩) v1 w10).trans G11.out.2.1)
  refine hK _ _ Db.out ?_
  go_simp
  (refine t_one 9 rfl (by kernel_rfl) rfl rfl ?_ ?_ ?_; rotate_left; (focus (go_simp; rfl)); go_simp)
  (refine t_read 10 rfl (by kernel_rfl) (by kernel_rfl) (by kernel_rfl) (t_free rfl) ?_ ?_ ?_; rotate_left; (focus (intro v hv; go_simp; rfl)); go_simp)
  (refine t_last 11 rfl (by kernel_rfl) rfl (by kernel_rfl) (by kernel_rfl) ?_; intro K hK)
  have Rp := Lib.hid (HV.out.row.ft Db.out (fun ⟨off, e⟩ => (HV.out.ne _ _ e).2 rfl))
  refine store_cell rfl _ _ _ rfl p 4 (.slice ea' (en + 1) ec') (by go_simp) (by go_simp) rfl rfl 55 _ Rp.out infoEns13 (by show 4 < 5; decide) ?_
  intro w12 hr12 hu12
  refine hK _ _ ?_
  have R12 : Hid (Row w12 p 55 [.bool true, .int .i64 b, .int .i64 t, .int .i64 c, .slice ea' (en + 1) ec']) := Lib.hid hr12
  have FT : Hid (Ft F w w12) := Lib.hid (((Ft.of_below V1.out).trans (Db.out.mono (fun k ⟨off, e⟩ => (HV.out.ne k off e).1))).trans (Ft.of_upd hu12 H.out.fp))
  have hpl := H.out.lt p H.out.fp
  have hp2 : p < w10.heap.size := by have := Da.out.size; have := V1.out.size; omega
  have N12 : Hid (∀ x off, ea' = some ⟨x, off, none⟩ → FG F w w12 x ∧ x ≠ p) := Lib.hid (fun x off e => by
    rcases G11.out.2.2 x off e with ⟨o, e2⟩ | ⟨h1, h2⟩
    · exact ⟨.inl (HV.out.ne x o e2).1, (HV.out.ne x o e2).2⟩
    · refine ⟨.inr ⟨by have := Da.out.size; have := V1.out.size; omega, by have := hu12.size; omega⟩, by omega⟩)
  have O12 := Lib.hid (O11.out.upd hu12 (fun x off e => (N12.out x off e).2))
  have Q12 := Lib.hid ((G11.out.1.rd Ra.out).put Rp.out (NB_lg _ _ _ _ _ _) hu12)
  have K12 := Lib.hid (fun x hx => EnF.put13 (G11.out.1.en ((HV.out.fit x hx).mono Da.out)) Rp.out (NB_lg _ _ _ _ _ _) hu12)
  have S12 := Lib.hid (show w12.heap.size = w11.heap.size from hu12.size)
  have S11 := Lib.hid G11.out.2.1.size
  have S9 := Lib.hid (show w.heap.size ≤ we.heap.size from Nat.le_trans V1.out.size DW.out.size)
  clear hr12 hu12
  go_simp
  go_wp2_with fail
  go_ret
  refine ⟨ea', ec', L ++ [((⟨e.ix, e.tm, e.kd, ra, e.n, rc⟩ : En), l)], rfl, ⟨R12.out, by rw [List.map_append]; exact O12.out, N12.out, ?_, ?_, .inl H.out.fp, ?_⟩, by simp [pe], FT.out⟩
  · intro x hx
    rcases List.mem_append.1 hx with hx | hx
    · exact K12.out x hx
    · rw [List.mem_singleton.1 hx]; exact ⟨HE.out.ix, HE.out.tm, HE.out.kd, Q12.out⟩
  · intro x hx hn0 k off e
    rcases List.mem_append.1 hx with hx | hx
    · exact .inl (H.out.fa x hx hn0 k off e)
    · rw [List.mem_singleton.1 hx] at e hn0
      refine .inr ⟨Nat.le_trans S9.out (FR9.out k off e), ?_⟩
      obtain ⟨b9, o9, h9, hlt9, -⟩ := Q12.out.lt_of hn0
      have e' : ra = some ⟨k, off, none⟩ := e
      rw [h9] at e'
      have : b9 = k := congrArg Addr.block (Option.some.inj e')
      omega
  · intro k hk
    rcases hk with hk | hk
    · exact Nat.lt_of_lt_of_le (H.out.lt k hk) FT.out.size
    · exact hk.2
end Go.Proofs.Ytnlbdgaleibgcaa.W
