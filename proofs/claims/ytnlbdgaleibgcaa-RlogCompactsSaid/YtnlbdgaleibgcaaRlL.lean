/- LAYER 13 (rlog): Conf, Compact of the program. -/
import Derived.Test.YtnlbdgaleibgcaaRlK
import Derived.Test.YtnlbdgaleibgcaaRlG
set_option linter.unusedSimpArgs false
set_option linter.unusedVariables false
namespace Go.Proofs.Ytnlbdgaleibgcaa.W
open Go Go.ChangeShapes Go.WideShapes Go.ChangeAt Go.RowKit

theorem run_built {P : Program} {w : World} {o : Oper} {a : Act} (ty : TypeId) (parts : Array (Nat × Operand)) (ho : o.op = .build ty parts) (L : List Value)
    (hb : P.built ty (parts.map fun (i, x) => (i, a.eval x)).toList = some L.toArray) : (execOp a.eval o).run P w = .ok (.value (.agg L.toArray)) w := by
  unfold execOp
  simp only [ho, Sem.run_bind, run_build w ty _ _ hb, Result.andThen_ok]
  rfl
set_option maxRecDepth 100000 in
set_option maxHeartbeats 4000000 in
theorem gconf (p : Nat) (F : Nat → Prop) (b t c : Int) (ea : Option Addr) (en ec : Nat) (L : List (En × List UInt8)) (w : World) (h : LG w p F b t c ea en ec L) (ho : LOK (lsOf b t c L)) : Calls Try.prog 32 #[.pointer (some ⟨p, 0, none⟩)] w fun x w' => x = .returned (.int .i64 ((lsOf b t c L).confAt (lsOf b t c L).last)) ∧ Below w.heap.size w w' := by
  have GL := Lib.hid (fun (W : World) (hb : Below w.heap.size w W) => glast p F b t c ea en ec L W (h.mono hb) ho)
  have GT := Lib.hid (fun (W : World) (hb : Below w.heap.size w W) => gconfAt p F b t c ea en ec L (lsOf b t c L).last W (h.mono hb) ho)
  obtain ⟨z, hz⟩ : ∃ z, (lsOf b t c L).last = z := ⟨_, rfl⟩
  rw [hz] at GL GT ⊢
  obtain ⟨y, hy⟩ : ∃ y, (lsOf b t c L).confAt z = y := ⟨_, rfl⟩
  rw [hy] at GT ⊢
  clear h ho hz hy
  go_enter Try.func32, Try.ntmps32
  go_wp2_with (first | (go_at_call 30; (with_reducible refine (GL.out w (Below.refl _ _)).mono ?_); rintro x w1 ⟨rfl, hb1⟩; have B1 := Lib.hid hb1; clear hb1) | (go_at_call 35; (with_reducible refine (GT.out w1 B1.out).mono ?_); rintro x w2 ⟨rfl, hb2⟩; have B2 := Lib.hid (B1.out.trans (hb2.mono B1.out.size)); clear hb2))
  go_ret
  exact ⟨rfl, B2.out⟩
set_option maxRecDepth 100000 in
set_option maxHeartbeats 4000000 in
theorem gcompact (p : Nat) (F : Nat → Prop) (b t c : Int) (ea : Option Addr) (en ec : Nat) (L : List (En × List UInt8)) (i : Int) (w : World) (h : LG w p F b t c ea en ec L) (ho : LOK (lsOf b t c L)) :
    Calls Try.prog 18 #[.pointer (some ⟨p, 0, none⟩), .int .i64 i] w fun x w' => ∃ b' t' c' en' L', x = .returned (.int .i64 ((lsOf b t c L).compact i).2) ∧ LG w' p F b' t' c' ea en' ec L' ∧ lsOf b' t' c' L' = ((lsOf b t c L).compact i).1 ∧ en' ≤ en ∧ Ft F w w' := by
  have H := Lib.hid h
  have hn : en ≤ 1000000 := by
    have h1 := ho.n
    have h2 := h.len
    rw [show (lsOf b t c L).l.length = en by rw [← h2]; simp [lsOf]] at h1
    omega
  have GT := Lib.hid (fun (W : World) (hb : Below w.heap.size w W) => gterm p F b t c ea en ec L i W (h.mono hb) ho)
  have GC := Lib.hid (fun (W : World) (hb : Below w.heap.size w W) => gconfAt p F b t c ea en ec L i W (h.mono hb) ho)
  have BS := Lib.hid base_size
  have hl : (lsOf b t c L).l = L.map pe := rfl
  unfold LS.compact
  obtain ⟨tv, htv⟩ : ∃ y, (lsOf b t c L).term i = y := ⟨_, rfl⟩
  obtain ⟨cv, hcv⟩ : ∃ y, (lsOf b t c L).confAt i = y := ⟨_, rfl⟩
  obtain ⟨ev, hev⟩ : ∃ y, (lsOf b t c L).termE i = y := ⟨_, rfl⟩
  have hev6 : ev = 0 ∨ ev = 6 := by rw [← hev]; unfold LS.termE; split; exact .inl rfl; split; exact .inl rfl; exact .inr rfl
  rw [htv, hev] at GT
  rw [hcv] at GC
  rw [htv, hcv, hev, hl]
  clear h ho htv hcv hev hl
  rcases hev6 with rfl | rfl
  · rw [if_pos rfl]
    have BB := Lib.hid (built_base i tv cv)
    go_enter Try.func18, Try.ntmps18
    go_wp2_with (first
      | (with_reducible refine box_cell (o := ⟨some 3, _, _, _, _, _⟩) rfl _ _ rfl (.int .i64 i) rfl rfl ?_; intro w1 hr1 hb1 hz1; have R1 := Lib.hid hr1; have B1 := Lib.hid hb1; have d0 := R1.out.k0; clear hr1 hb1 hz1)
      | (go_at_call 34; (with_reducible refine (GT.out w1 B1.out).mono ?_); rintro x w2 ⟨rfl, hb⟩; have B2 := Lib.hid (B1.out.trans (hb.mono B1.out.size)); have R2 := Lib.hid (R1.out.below hb R1.out.lt); clear hb d0; have d0 := R2.out.k0))
    refine region_t (fun v => Below w2.heap.size w2 v) 9 (by kernel_rfl) (by kernel_rfl) (by kernel_rfl) (Below.refl _ _).drew ?_
    obtain ⟨wd, hwd⟩ : ∃ wd, w2.drew = wd := ⟨_, rfl⟩
    have D0 : Hid (Below w2.heap.size w2 wd) := Lib.hid (by rw [← hwd]; exact (Below.refl _ _).drew)
    rw [hwd]
    clear hwd
    (refine t_read 0 rfl (by kernel_rfl) (by kernel_rfl) (by kernel_rfl) (t_free rfl) ?_ ?_ ?_; rotate_left; (focus (intro v hv; go_simp; rfl)); go_simp)
    (refine t_read 1 rfl (by kernel_rfl) (by kernel_rfl) (by kernel_rfl) (t_free rfl) ?_ ?_ ?_; rotate_left; (focus (intro v hv; have d0 := (R2.out.below hv R2.out.lt).k0; go_simp; rfl)); go_simp)
    (refine t_read 2 rfl (by kernel_rfl) (by kernel_rfl) (by kernel_rfl) (t_free rfl) ?_ ?_ ?_; rotate_left; (focus (intro v hv; go_simp; rfl)); go_simp)
    (refine t_read 3 rfl (by kernel_rfl) (by kernel_rfl) (by kernel_rfl) (t_free rfl) ?_ ?_ ?_; rotate_left; (focus (intro v hv; go_simp; rfl)); go_simp)
    (refine t_read 4 rfl (by kernel_rfl) (by kernel_rfl) (by kernel_rfl) (t_free rfl) ?_ ?_ ?_; rotate_left; (focus (intro v hv; have d0 := (R2.out.below hv R2.out.lt).k0; go_simp; rfl)); go_simp)
    (refine t_call 5 rfl (by kernel_rfl) rfl (t_free rfl) 35 ?_ ?_ ?_; rotate_left; (focus (go_simp; rfl)))
    refine (GC.out wd (B2.out.trans (D0.out.mono B2.out.size))).mono ?_
    rintro x v1 ⟨rfl, hb⟩
    have J1 := Lib.hid (D0.out.trans (hb.mono D0.out.size))
    clear hb
    refine ⟨_, rfl, J1.out, ?_⟩
    go_simp
    (refine t_read 6 rfl (by kernel_rfl) (by kernel_rfl) (by kernel_rfl) (t_free rfl) ?_ ?_ ?_; rotate_left; (focus (intro v hv; refine run_built 53 #[(0, .tmp 17), (1, .tmp 18), (2, .tmp 21)] ?_ [.int .i64 i, .int .i64 tv, .int .i64 cv] ?_; (focus rfl); go_simp; exact BB.out)); go_simp)
    (refine t_one 7 rfl (by kernel_rfl) rfl rfl ?_ ?_ ?_; rotate_left; (focus (go_simp; rfl)); go_simp)
    (refine t_read 8 rfl (by kernel_rfl) (by kernel_rfl) (by kernel_rfl) (t_free rfl) ?_ ?_ ?_; rotate_left; (focus (intro v hv; go_simp; rfl)); go_simp)
    (refine t_last 9 rfl (by kernel_rfl) rfl (by kernel_rfl) (by kernel_rfl) ?_; intro K hK)
    have V1 := Lib.hid (B2.out.trans (J1.out.mono B2.out.size))
    have HV := Lib.hid (H.out.mono V1.out)
    have RV := Lib.hid (R2.out.below J1.out R2.out.lt)
    refine store_part rfl _ _ _ rfl p 1 [.int .i64 i, .int .i64 tv, .int .i64 cv] (by go_simp) (by first | (go_simp; done) | (go_simp; rfl)) 55 _ HV.out.row BS.out (by show 1 + 3 ≤ 5; decide) (int3_one _ _ _) ?_
    intro w3 hr3 hu3
    have R3 : Hid (Row w3 p 55 [.bool true, .int .i64 i, .int .i64 tv, .int .i64 cv, .slice ea en ec]) := Lib.hid hr3
    have U3 := Lib.hid hu3
    have hpw : w.heap.size ≠ p := fun e => absurd (H.out.lt p H.out.fp) (by omega)
    have RB3 := Lib.hid (RV.out.upd hu3 hpw)
    have H3 : Hid (LG w3 p F i tv cv ea en ec L) := Lib.hid ⟨R3.out, HV.out.es.upd hu3 (fun x off e => (HV.out.ne x off e).2), HV.out.ne, fun x hx => EnF.put13 (HV.out.fit x hx) HV.out.row (NB_lg _ _ _ _ _ _) hu3, HV.out.fa, HV.out.fp, fun k hk => by rw [hu3.size]; exact HV.out.lt k hk⟩
    have F3 : Hid (Ft F w w3) := Lib.hid ((Ft.of_below V1.out).trans (Ft.of_upd hu3 H.out.fp))
    clear hr3 hu3
    refine hK _ _ ?_
    go_simp
    go_wp2_with (first
      | (go_at_call 46; refine (gdrop1 p F i tv cv ea en ec L i w.heap.size w3 H3.out hn RB3.out (fun hf => Nat.lt_irrefl _ (H.out.lt _ hf))).mono ?_; rintro x w4 ⟨⟨v, rfl⟩, en', L', hL, hle, hpe, hft⟩; have L4 := Lib.hid hL; have PE4 := Lib.hid hpe; have FT4 := Lib.hid hft; have LE4 := Lib.hid hle; clear hL hle hpe hft))
    go_ret
    exact ⟨i, tv, cv, en', L', rfl, L4.out, by unfold lsOf; rw [PE4.out], LE4.out, F3.out.trans FT4.out⟩

  · rw [if_neg (by decide)]
    go_enter Try.func18, Try.ntmps18
    go_wp2_with (first
      | (with_reducible refine box_cell (o := ⟨some 3, _, _, _, _, _⟩) rfl _ _ rfl (.int .i64 i) rfl rfl ?_; intro w1 hr1 hb1 hz1; have R1 := Lib.hid hr1; have B1 := Lib.hid hb1; have d0 := R1.out.k0; clear hr1 hb1 hz1)
      | (go_at_call 34; (with_reducible refine (GT.out w1 B1.out).mono ?_); rintro x w2 ⟨rfl, hb⟩; have B2 := Lib.hid (B1.out.trans (hb.mono B1.out.size)); have R2 := Lib.hid (R1.out.below hb R1.out.lt); clear hb d0; have d0 := R2.out.k0))
    go_ret
    exact ⟨b, t, c, en, L, rfl, H.out.mono B2.out, rfl, Nat.le_refl _, Ft.of_below B2.out⟩
end Go.Proofs.Ytnlbdgaleibgcaa.W
