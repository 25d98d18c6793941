/- LAYER 13 (rlog): Append, New, From of the reference. LAYER 13 (rlog): Append in one contract, New, From of the reference. -/
import Derived.Test.YtnlbdgaleibgcaaRlY
import Derived.Test.YtnlbdgaleibgcaaRlM
set_option linter.unusedSimpArgs false
set_option linter.unusedVariables false
namespace Go.Proofs.Ytnlbdgaleibgcaa.W
open Go Go.ChangeShapes Go.WideShapes Go.ChangeAt Go.RowKit

theorem Rd.grow13 {w w' : World} {row : Option Nat} {a : Option Addr} {len cap : Nat} {l : List UInt8} (h : Rd w a len cap l) (hg : w.grownBy w' row) (hne : len ≠ 0 → ∀ k off, a = some ⟨k, off, none⟩ → row ≠ some k) : Rd w' a len cap l :=
  h.ft (F := fun k => row = some k) ⟨hg.os, hg.tape, hg.output, hg.size, fun k hk hn => hg.block k hk (fun e => hn e.symm)⟩ (fun hn b off e => hne hn b off e)
set_option maxRecDepth 100000 in
set_option maxHeartbeats 8000000 in
theorem xappend_bad (p : Nat) (F : Nat → Prop) (b t c : Int) (a : Option Addr) (n cp : Nat) (L : List (En × List UInt8)) (e : En) (l : List UInt8) (w : World) (h : XG w p F b t c a n cp L) (ho : LOK (lsOf b t c L)) (hk : enOk e = false) :
    Calls Try.prog 15 #[.pointer (some ⟨p, 0, none⟩), .agg e.cells.toArray] w fun x w' => x = .returned (.int .i64 1) ∧ Below w.heap.size w w' := by
  have hl := h.len
  have hn := ho.n
  rw [show (lsOf b t c L).l.length = n by rw [← hl]; simp [lsOf]] at hn
  have GL := Lib.hid (fun (W : World) (hb : Below w.heap.size w W) => xlast p F b t c a n cp L W (h.mono hb) ho)
  obtain ⟨z, hz⟩ : ∃ z, (lsOf b t c L).last = z := ⟨_, rfl⟩
  rw [hz] at GL
  have H := Lib.hid h
  have HN := Lib.hid hn
  have ES := Lib.hid en_size
  have UE := Lib.hid (fun (W : World) => uentry e W)
  rw [hk] at UE
  clear h ho hl hn hz hk
  go_enter Try.func15, Try.ntmps15
  go_wp2_with (first
    | (with_reducible refine box_row (o := ⟨some 3, _, _, _, _, _⟩) rfl _ _ rfl e.cells rfl ?_; intro w1 hr1 hb1 hz1; have E1 := Lib.hid hr1; have B1 := Lib.hid hb1; clear hr1 hb1 hz1)
    | ((with_reducible refine load_row (o := ⟨some 5, _, _, _, _, _⟩) rfl _ _ rfl w.heap.size ?_ _ e.cells _ E1.out Try.underlying34 rfl ?_ ?_); (focus go_simp); (focus (exact ES.out)))
    | (go_at_call 44; (with_reducible refine (UE.out w1).mono ?_); rintro x w3 ⟨rfl, hb⟩; have B3 := Lib.hid (B1.out.trans (hb.mono B1.out.size)); have E3 := Lib.hid (E1.out.below hb E1.out.lt); clear hb))
  go_ret
  exact ⟨rfl, B3.out⟩
set_option maxRecDepth 100000 in
set_option maxHeartbeats 8000000 in
theorem xappend_log (p : Nat) (F : Nat → Prop) (b t c : Int) (a : Option Addr) (n cp : Nat) (L : List (En × List UInt8)) (e : En) (l : List UInt8) (w : World) (h : XG w p F b t c a n cp L) (ho : LOK (lsOf b t c L)) (hk : enOk e = true) (hx : e.ix ≠ (lsOf b t c L).last + 1) :
    Calls Try.prog 15 #[.pointer (some ⟨p, 0, none⟩), .agg e.cells.toArray] w fun x w' => x = .returned (.int .i64 10) ∧ Below w.heap.size w w' := by
  have hl := h.len
  have hn := ho.n
  rw [show (lsOf b t c L).l.length = n by rw [← hl]; simp [lsOf]] at hn
  have GL := Lib.hid (fun (W : World) (hb : Below w.heap.size w W) => xlast p F b t c a n cp L W (h.mono hb) ho)
  obtain ⟨z, hz⟩ : ∃ z, (lsOf b t c L).last = z := ⟨_, rfl⟩
  rw [hz] at GL
  have H := Lib.hid h
  have HN := Lib.hid hn
  have ES := Lib.hid en_size
  have UE := Lib.hid (fun (W : World) => uentry e W)
  rw [hk] at UE
  have hix : 1 ≤ e.ix ∧ e.ix ≤ 2147483648 := by have := hk; unfold enOk inV at this; simp at this; omega
  have gz : IntKind.i64.wrap (e.ix - 1) = e.ix - 1 := by rw [IntKind.wrap_i64]; omega
  have HNE := Lib.hid (show e.n ≤ 140737488355000 by have := hk; unfold enOk at this; simp at this; omega)
  rw [hz] at hx
  have hq1 : (e.ix - 1 == z) = false := by simp; omega
  have hq2 : (e.ix - 1 != z) = true := by simp; omega
  clear h ho hl hn hz hk hix hx
  go_enter Try.func15, Try.ntmps15
  go_wp2_with (first
    | (with_reducible refine box_row (o := ⟨some 3, _, _, _, _, _⟩) rfl _ _ rfl e.cells rfl ?_; intro w1 hr1 hb1 hz1; have E1 := Lib.hid hr1; have B1 := Lib.hid hb1; clear hr1 hb1 hz1)
    | ((with_reducible refine load_row (o := ⟨some 5, _, _, _, _, _⟩) rfl _ _ rfl w.heap.size ?_ _ e.cells _ E1.out Try.underlying34 rfl ?_ ?_); (focus go_simp); (focus (exact ES.out)))
    | (go_at_call 44; (with_reducible refine (UE.out w1).mono ?_); rintro x w3 ⟨rfl, hb⟩; have B3 := Lib.hid (B1.out.trans (hb.mono B1.out.size)); have E3 := Lib.hid (E1.out.below hb E1.out.lt); clear hb))
  refine region_h (fun v => Below w3.heap.size w3 v) (by kernel_rfl) (by kernel_rfl) (Below.refl _ _).drew ?_
  obtain ⟨wd, hwd⟩ : ∃ wd, w3.drew = wd := ⟨_, rfl⟩
  have D0 : Hid (Below w3.heap.size w3 wd) := Lib.hid (by rw [← hwd]; exact (Below.refl _ _).drew)
  rw [hwd]
  clear hwd
  (refine h_read 0 rfl (by kernel_rfl) (by kernel_rfl) (h_free rfl) ?_ ?_ ?_; rotate_left; (focus (intro v hv; go_simp; rfl)); go_simp)
  (refine h_read 1 rfl (by kernel_rfl) (by kernel_rfl) (h_free rfl) ?_ ?_ ?_; rotate_left; (focus (intro v hv; obtain ⟨e0, e1, e2, e3⟩ := (E3.out.below hv E3.out.lt).q4; go_simp; rfl)); go_simp)
  (refine h_read 2 rfl (by kernel_rfl) (by kernel_rfl) (h_free rfl) ?_ ?_ ?_; rotate_left; (focus (intro v hv; go_simp; rfl)); go_simp)
  (refine h_read 3 rfl (by kernel_rfl) (by kernel_rfl) (h_free rfl) ?_ ?_ ?_; rotate_left; (focus (intro v hv; go_simp; rfl)); go_simp)
  (refine h_call 4 rfl (by kernel_rfl) (h_free rfl) 37 ?_ ?_ ?_; rotate_left; (focus (go_simp; rfl)))
  refine (GL.out wd (B3.out.trans (D0.out.mono B3.out.size))).mono ?_
  rintro x v1 ⟨rfl, hb⟩
  have J1 := Lib.hid (D0.out.trans (hb.mono D0.out.size))
  clear hb
  refine ⟨_, rfl, J1.out, ?_⟩
  go_simp
  (refine h_read 5 rfl (by kernel_rfl) (by kernel_rfl) (h_free rfl) ?_ ?_ ?_; rotate_left; (focus (intro v hv; go_simp; rfl)); go_simp)
  refine h_done (by kernel_rfl) ?_
  go_wp2_with fail
  go_ret
  exact ⟨rfl, B3.out.trans (J1.out.mono B3.out.size)⟩
set_option maxRecDepth 100000 in
set_option maxHeartbeats 8000000 in
theorem xappend_ok (p : Nat) (F : Nat → Prop) (b t c : Int) (a : Option Addr) (n cp : Nat) (L : List (En × List UInt8)) (e : En) (l : List UInt8) (w : World) (h : XG w p F b t c a n cp L) (ho : LOK (lsOf b t c L)) (hk : enOk e = true) (he : EnF w e l) (hx : e.ix = (lsOf b t c L).last + 1) :
    Calls Try.prog 15 #[.pointer (some ⟨p, 0, none⟩), .agg e.cells.toArray] w fun x w' => ∃ a' cp' L', x = .returned (.int .i64 0) ∧ XG w' p (FG F w w') b t c a' (n + 1) cp' L' ∧ L'.map pe = L.map pe ++ [pe (e, l)] ∧ Ft F w w' := by
  have hl := h.len
  have hn := ho.n
  rw [show (lsOf b t c L).l.length = n by rw [← hl]; simp [lsOf]] at hn
  have GL := Lib.hid (fun (W : World) (hb : Below w.heap.size w W) => xlast p F b t c a n cp L W (h.mono hb) ho)
  obtain ⟨z, hz⟩ : ∃ z, (lsOf b t c L).last = z := ⟨_, rfl⟩
  rw [hz] at GL
  have H := Lib.hid h
  have HN := Lib.hid hn
  have ES := Lib.hid en_size
  have UE := Lib.hid (fun (W : World) => uentry e W)
  rw [hk] at UE
  have hix : 1 ≤ e.ix ∧ e.ix ≤ 2147483648 := by have := hk; unfold enOk inV at this; simp at this; omega
  have gz : IntKind.i64.wrap (e.ix - 1) = e.ix - 1 := by rw [IntKind.wrap_i64]; omega
  have HNE := Lib.hid (show e.n ≤ 140737488355000 by have := hk; unfold enOk at this; simp at this; omega)
  rw [hz] at hx
  have hq1 : (e.ix - 1 == z) = true := by simp; omega
  have hq2 : (e.ix - 1 != z) = false := by simp; omega
  have HE := Lib.hid he
  clear h ho hl hn hz hk hix hx he
  go_enter Try.func15, Try.ntmps15
  go_wp2_with (first
    | (with_reducible refine box_row (o := ⟨some 3, _, _, _, _, _⟩) rfl _ _ rfl e.cells rfl ?_; intro w1 hr1 hb1 hz1; have E1 := Lib.hid hr1; have B1 := Lib.hid hb1; clear hr1 hb1 hz1)
    | ((with_reducible refine load_row (o := ⟨some 5, _, _, _, _, _⟩) rfl _ _ rfl w.heap.size ?_ _ e.cells _ E1.out Try.underlying34 rfl ?_ ?_); (focus go_simp); (focus (exact ES.out)))
    | (go_at_call 44; (with_reducible refine (UE.out w1).mono ?_); rintro x w3 ⟨rfl, hb⟩; have B3 := Lib.hid (B1.out.trans (hb.mono B1.out.size)); have E3 := Lib.hid (E1.out.below hb E1.out.lt); clear hb))
  refine region_h (fun v => Below w3.heap.size w3 v) (by kernel_rfl) (by kernel_rfl) (Below.refl _ _).drew ?_
  obtain ⟨wd, hwd⟩ : ∃ wd, w3.drew = wd := ⟨_, rfl⟩
  have D0 : Hid (Below w3.heap.size w3 wd) := Lib.hid (by rw [← hwd]; exact (Below.refl _ _).drew)
  rw [hwd]
  clear hwd
  (refine h_read 0 rfl (by kernel_rfl) (by kernel_rfl) (h_free rfl) ?_ ?_ ?_; rotate_left; (focus (intro v hv; go_simp; rfl)); go_simp)
  (refine h_read 1 rfl (by kernel_rfl) (by kernel_rfl) (h_free rfl) ?_ ?_ ?_; rotate_left; (focus (intro v hv; obtain ⟨e0, e1, e2, e3⟩ := (E3.out.below hv E3.out.lt).q4; go_simp; rfl)); go_simp)
  (refine h_read 2 rfl (by kernel_rfl) (by kernel_rfl) (h_free rfl) ?_ ?_ ?_; rotate_left; (focus (intro v hv; go_simp; rfl)); go_simp)
  (refine h_read 3 rfl (by kernel_rfl) (by kernel_rfl) (h_free rfl) ?_ ?_ ?_; rotate_left; (focus (intro v hv; go_simp; rfl)); go_simp)
  (refine h_call 4 rfl (by kernel_rfl) (h_free rfl) 37 ?_ ?_ ?_; rotate_left; (focus (go_simp; rfl)))
  refine (GL.out wd (B3.out.trans (D0.out.mono B3.out.size))).mono ?_
  rintro x v1 ⟨rfl, hb⟩
  have J1 := Lib.hid (D0.out.trans (hb.mono D0.out.size))
  clear hb
  refine ⟨_, rfl, J1.out, ?_⟩
  go_simp
  (refine h_read 5 rfl (by kernel_rfl) (by kernel_rfl) (h_free rfl) ?_ ?_ ?_; rotate_left; (focus (intro v hv; go_simp; rfl)); go_simp)
  refine h_done (by kernel_rfl) ?_
  go_wp2_with fail
  clear hq1 hq2 gz
  have V1 := Lib.hid (B3.out.trans (J1.out.mono B3.out.size))
  have EV := Lib.hid (E3.out.below J1.out E3.out.lt)
  have HV := Lib.hid (H.out.mono V1.out)
  refine region_t (fun v => Below v1.heap.size v1 v) 12 (by kernel_rfl) (by kernel_rfl) (by kernel_rfl) (Below.refl _ _).drew ?_
  obtain ⟨we, hwe⟩ : ∃ wd, v1.drew = wd := ⟨_, rfl⟩
  have DW : Hid (Below v1.heap.size v1 we) := Lib.hid (by rw [← hwe]; exact (Below.refl _ _).drew)
  rw [hwe]
  clear hwe
  (refine t_read 0 rfl (by kernel_rfl) (by kernel_rfl) (by kernel_rfl) (t_free rfl) ?_ ?_ ?_; rotate_left; (focus (intro v hv; go_simp; rfl)); go_simp)
  (refine t_read 1 rfl (by kernel_rfl) (by kernel_rfl) (by kernel_rfl) (t_free rfl) ?_ ?_ ?_; rotate_left; (focus (intro v hv; go_simp; rfl)); go_simp)
  (refine t_read 2 rfl (by kernel_rfl) (by kernel_rfl) (by kernel_rfl) (t_free rfl) ?_ ?_ ?_; rotate_left; (focus (intro v hv; go_simp; rfl)); go_simp)
  (refine t_read 3 rfl (by kernel_rfl) (by kernel_rfl) (by kernel_rfl) (t_free rfl) ?_ ?_ ?_; rotate_left; (focus (intro v hv; go_simp; rfl)); go_simp)
  (refine t_read 4 rfl (by kernel_rfl) (by kernel_rfl) (by kernel_rfl) (t_free rfl) ?_ ?_ ?_; rotate_left; (focus (intro v hv; obtain ⟨c0, c1, c2, c3⟩ := (HV.out.mono hv).row.q4; go_simp; rfl)); go_simp)
  (refine t_read 6 rfl (by kernel_rfl) (by kernel_rfl) (by kernel_rfl) (t_free rfl) ?_ ?_ ?_; rotate_left; (focus (intro v hv; refine load_all 34 (.tmp 3) ?_ w.heap.size ?_ _ e.cells _ (EV.out.below hv EV.out.lt) Try.underlying34 rfl en_size; (focus rfl); go_simp)); go_simp)
  (refine t_list 5 rfl (by kernel_rfl) rfl ?_; intro K hK)
  have OK := Lib.hid (HV.out.es.mono DW.out)
  refine append_ens rfl _ _ rfl we.heap.size (.slice none 0 0) 0 [] (by go_simp) (World.ownsRow_nil _ _ _ _) a n cp L (by go_simp) OK.out (by have := HN.out; omega) (Nat.le_refl _) ?_
  intro v2 w2 ho2 hb2 _
  rw [List.nil_append, Nat.zero_add] at ho2
  have O2 := Lib.hid ho2
  have D2 := Lib.hid (DW.out.trans (hb2.mono DW.out.size))
  have S2 := Lib.hid hb2.size
  have OB2 := Lib.hid (World.ownsRow.lt ho2)
  clear ho2 hb2
  refine hK _ _ D2.out ?_
  go_simp
  (refine t_call 7 rfl (by kernel_rfl) rfl (t_free rfl) 45 ?_ ?_ ?_; rotate_left; (focus (go_simp; rfl)))
  refine (xcopied e l w2 (HE.out.rd.mono (V1.out.trans (D2.out.mono V1.out.size))) HNE.out).mono ?_
  rintro x w9 ⟨ra, rc, rfl, hrd, hfr, hb⟩
  have R9 := Lib.hid hrd
  have FR9 := Lib.hid hfr
  have D9 := Lib.hid (D2.out.trans (hb.mono D2.out.size))
  have O9 := Lib.hid (ownsRow_below O2.out hb)
  have S9 := Lib.hid (Nat.le_trans S2.out hb.size)
  clear hrd hfr hb
  refine ⟨_, rfl, D9.out, ?_⟩
  go_simp
  (refine t_list 8 rfl (by kernel_rfl) rfl ?_; intro K hK)
  refine build_en rfl _ rfl ⟨e.ix, e.tm, e.kd, ra, e.n, rc⟩ (by go_simp) ?_
  intro w10 hr10 hb10 hz10
  have A10 := Lib.hid hr10
  have Ra := Lib.hid (R9.out.mono hb10)
  have O10 := Lib.hid (ownsRow_below O9.out hb10)
  have Da := Lib.hid (D9.out.trans (hb10.mono D9.out.size))
  have S10 := Lib.hid (Nat.le_trans S9.out hb10.size)
  clear hr10 hb10 hz10
  refine hK _ _ Da.out ?_
  go_simp
  (refine t_list 9 rfl (by kernel_rfl) rfl ?_; intro K hK)
  have EN10 : Hid (EnF w10 ⟨e.ix, e.tm, e.kd, ra, e.n, rc⟩ l) := Lib.hid ⟨HE.out.ix, HE.out.tm, HE.out.kd, Ra.out⟩
  have SR := Lib.hid (show Ents w10 (some ⟨w9.heap.size, 0, none⟩) 1 1 [((⟨e.ix, e.tm, e.kd, ra, e.n, rc⟩ : En), l)] from Row.ents (show Row w10 w9.heap.size 34 (flat ([((⟨e.ix, e.tm, e.kd, ra, e.n, rc⟩ : En), l)].map (·.1))) from A10.out) (fun q hq => by rw [List.mem_singleton.1 hq]; exact EN10.out) 1 rfl (by decide))
  refine append_ens rfl _ _ rfl we.heap.size v2 n (L.map (·.1)) (by go_simp) O10.out (some ⟨w9.heap.size, 0, none⟩) 1 1 _ (by go_simp) SR.out (by have := HN.out; omega) S10.out ?_
  intro v3 w11 ho3 hb3 hg3
  have hL3 : L.map (·.1) ++ [((⟨e.ix, e.tm, e.kd, ra, e.n, rc⟩ : En), l)].map (·.1) = (L ++ [((⟨e.ix, e.tm, e.kd, ra, e.n, rc⟩ : En), l)]).map (·.1) := by rw [List.map_append]
  rw [hL3] at ho3
  have hgr : ∀ {e' : En} {l' : List UInt8}, EnF w10 e' l' → (e'.n ≠ 0 → ∀ k off, e'.a = some ⟨k, off, none⟩ → k < we.heap.size ∨ w2.heap.size ≤ k) → EnF w11 e' l' := fun {e' l'} h9 hd => ⟨h9.ix, h9.tm, h9.kd, h9.rd.grow13 hg3 (fun hn k off ee hr => by
    have h5 := OB2.out k hr
    rcases hd hn k off ee with h6 | h6 <;> omega)⟩
  have hra : ∀ k off, ra = some ⟨k, off, none⟩ → k < we.heap.size ∨ w2.heap.size ≤ k := fun k off ee => .inr (FR9.out k off ee)
  obtain ⟨qa, qc, hv3, hE, hne, hsp2⟩ := own_ents ho3 (by rw [List.length_append, H.out.len]; rfl) (by have := HN.out; omega) (fun y hy => by
    rcases List.mem_append.1 hy with hy | hy
    · exact hgr ((HV.out.es.hfit y hy).mono Da.out) (fun hn k off ee => .inl (Nat.lt_of_lt_of_le (H.out.lt _ (H.out.fa y hy hn k off ee)) (Nat.le_trans V1.out.size DW.out.size)))
    · rw [List.mem_singleton.1 hy]; exact hgr EN10.out (fun _ => hra))
  subst hv3
  have E11 := Lib.hid hE
  have NE11 := Lib.hid hne
  have SP11 := Lib.hid hsp2
  have S11 := Lib.hid DW.out.size
  have Db := Lib.hid (Da.out.trans (hb3.mono S11.out))
  have Q11 := Lib.hid (hgr EN10.out (fun _ => hra))
  clear ho3 hb3 hE hne hsp2 hL3 hgr hra hg3
  refine hK _ _ Db.out ?_
  go_simp
  (refine t_one 10 rfl (by kernel_rfl) rfl rfl ?_ ?_ ?_; rotate_left; (focus (go_simp; rfl)); go_simp)
  (refine t_read 11 rfl (by kernel_rfl) (by kernel_rfl) (by kernel_rfl) (t_free rfl) ?_ ?_ ?_; rotate_left; (focus (intro v hv; go_simp; rfl)); go_simp)
  (refine t_last 12 rfl (by kernel_rfl) rfl (by kernel_rfl) (by kernel_rfl) ?_; intro K hK)
  have Vb := Lib.hid (V1.out.trans (Db.out.mono V1.out.size))
  have Hb := Lib.hid (H.out.mono Vb.out)
  have hpw := H.out.lt p H.out.fp
  refine store_cell rfl _ _ _ rfl p 3 (.slice qa (n + 1) qc) (by go_simp) (by go_simp) rfl rfl 60 _ Hb.out.row infoEns13 (by show 3 < 4; decide) ?_
  intro w12 hr12 hu12
  have R12 : Hid (Row w12 p 60 [.int .i64 b, .int .i64 t, .int .i64 c, .slice qa (n + 1) qc]) := Lib.hid hr12
  have U12 := Lib.hid hu12
  have FT : Hid (Ft F w w12) := Lib.hid ((Ft.of_below Vb.out).trans (Ft.of_upd hu12 H.out.fp))
  have N12 : Hid (∀ x off, qa = some ⟨x, off, none⟩ → FG F w w12 x ∧ x ≠ p) := Lib.hid (fun x off e => by
    have h1 := NE11.out x off e
    have h2 := S11.out
    have h3 := V1.out.size
    exact ⟨.inr ⟨by omega, by rw [U12.out.size]; exact h1.2⟩, by omega⟩)
  have Q12 := Lib.hid (Q11.out.put13 Hb.out.row (NB_ent_rl _ _ _ _ _ _) hu12)
  have FRW := Lib.hid (fun k off e' => Nat.le_trans (Nat.le_trans V1.out.size D2.out.size) (FR9.out k off e'))
  clear hr12 hu12
  refine hK _ _ ?_
  go_simp
  go_wp2_with fail
  go_ret
  refine ⟨qa, qc, L ++ [((⟨e.ix, e.tm, e.kd, ra, e.n, rc⟩ : En), l)], rfl, ⟨R12.out, E11.out.put13 Hb.out.row (NB_ent_rl _ _ _ _ _ _) U12.out (fun x off e => (N12.out x off e).2), N12.out, SP11.out, ?_, .inl H.out.fp, fun k hk => hk.elim (fun h9 => Nat.lt_of_lt_of_le (H.out.lt k h9) FT.out.size) (fun h9 => h9.2)⟩, by simp [pe], FT.out⟩
  intro x hx hn0 k off e'
  rcases List.mem_append.1 hx with hx | hx
  · exact .inl (H.out.fa x hx hn0 k off e')
  · rw [List.mem_singleton.1 hx] at e' hn0
    refine .inr ⟨FRW.out k off e', ?_⟩
    obtain ⟨b9, o9, h9, hlt9, -⟩ := Q12.out.rd.lt_of hn0
    have e2 : ra = some ⟨k, off, none⟩ := e'
    have h92 : ra = some ⟨b9, o9, none⟩ := h9
    rw [h92] at e2
    have : b9 = k := congrArg Addr.block (Option.some.inj e2)
    omega
end Go.Proofs.Ytnlbdgaleibgcaa.W

namespace Go.Proofs.Ytnlbdgaleibgcaa.W
open Go Go.ChangeShapes Go.WideShapes Go.ChangeAt Go.RowKit

theorem xappend (p : Nat) (F : Nat → Prop) (b t c : Int) (a : Option Addr) (n cp : Nat) (L : List (En × List UInt8)) (e : En) (l : List UInt8) (w : World) (h : XG w p F b t c a n cp L) (ho : LOK (lsOf b t c L)) (he : EnF w e l) :
    Calls Try.prog 15 #[.pointer (some ⟨p, 0, none⟩), .agg e.cells.toArray] w fun x w' => ∃ a' n' cp' L', x = .returned (.int .i64 ((lsOf b t c L).app (pe (e, l))).2) ∧ XG w' p (FG F w w') b t c a' n' cp' L' ∧ lsOf b t c L' = ((lsOf b t c L).app (pe (e, l))).1 ∧ Ft F w w' := by
  have hok := okPe_en he.rd.hlen
  unfold LS.app
  rw [hok]
  cases hk : enOk e with
  | false =>
    rw [if_pos rfl]
    refine (xappend_bad p F b t c a n cp L e l w h ho hk).mono ?_
    rintro x w' ⟨rfl, hb⟩
    exact ⟨a, n, cp, L, rfl, (h.mono hb).sub (fun k hk => .inl hk) (FG.lt h.lt hb.size), rfl, Ft.of_below hb⟩
  | true =>
    rw [if_neg (by decide)]
    by_cases hx : e.ix = (lsOf b t c L).last + 1
    · rw [if_pos (show (pe (e, l)).1 = _ from hx)]
      refine (xappend_ok p F b t c a n cp L e l w h ho hk he hx).mono ?_
      rintro x w' ⟨a', cp', L', rfl, hL, hp, hf⟩
      exact ⟨a', n + 1, cp', L', rfl, hL, by unfold lsOf; rw [hp], hf⟩
    · rw [if_neg (show ¬ (pe (e, l)).1 = _ from hx)]
      refine (xappend_log p F b t c a n cp L e l w h ho hk hx).mono ?_
      rintro x w' ⟨rfl, hb⟩
      exact ⟨a, n, cp, L, rfl, (h.mono hb).sub (fun k hk => .inl hk) (FG.lt h.lt hb.size), rfl, Ft.of_below hb⟩
theorem rl_built (b t c : Int) : Try.prog.built 60 [(0, .int .i64 b), (1, .int .i64 t), (2, .int .i64 c)] = some [.int .i64 b, .int .i64 t, .int .i64 c, .slice none 0 0].toArray := by kernel_rfl
set_option maxRecDepth 100000 in
set_option maxHeartbeats 8000000 in
theorem xnew (b t c : Int) (a : Option Addr) (n cp : Nat) (L0 : List (En × List UInt8)) (w : World) (h : Ents w a n cp L0) (hb : 0 ≤ b ∧ b ≤ 4294967296) (hn : n ≤ 100) :
    Calls Try.prog 11 #[.int .i64 b, .int .i64 t, .int .i64 c, .slice a n cp] w fun x w' => ∃ p F ra rn rc L, x = .returned (.pointer (some ⟨p, 0, none⟩)) ∧ XG w' p F b t c ra rn rc L ∧ lsOf b t c L = (lsOf b t c []).apps (L0.map pe) ∧ LOK (lsOf b t c L) ∧ L.length ≤ n ∧ (∀ k, F k → w.heap.size ≤ k) ∧ Below w.heap.size w w' := by
  have H := Lib.hid h
  have HL := Lib.hid h.hlen
  have ES := Lib.hid en_size
  have RB := Lib.hid (rl_built b t c)
  clear h
  go_enter Try.func11, Try.ntmps11
  go_wp2_with (first
    | ((with_reducible refine build_row (o := ⟨some 14, _, _, _, _, _⟩) rfl _ _ rfl [.int .i64 b, .int .i64 t, .int .i64 c, .slice none 0 0] ?_ ?_); (focus (go_simp; exact RB.out)))
    | ((with_reducible refine box_row (o := ⟨some 15, _, _, _, _, _⟩) rfl _ _ rfl [.int .i64 b, .int .i64 t, .int .i64 c, .slice none 0 0] ?_ ?_); (focus (first | rfl | (go_simp; done) | (go_simp; rfl))); intro w1 hr1 hb1 hz1; have R1 := Lib.hid hr1; have B1 := Lib.hid hb1; clear hr1 hb1 hz1))
  have A2 : Hid (XG w1 w.heap.size (fun k => w.heap.size ≤ k ∧ k < w1.heap.size) b t c none 0 0 []) := Lib.hid ⟨R1.out, Ents.nil _, (fun _ _ e => by cases e), (fun _ e => by cases e), (by simp), ⟨Nat.le_refl _, R1.out.lt⟩, fun k hk => hk.2⟩
  have K2 : Hid (LOK (lsOf b t c [])) := Lib.hid ⟨trivial, hb, Nat.zero_le _, (by simp [lsOf])⟩
  go_loopw [10] (fun i wr => ∃ (k : Nat) (ra : Option Addr) (rn rc : Nat) (L : List (En × List UInt8)), i = .int .i64 (k : Int) ∧ k ≤ n ∧ rn ≤ k ∧ Hid (XG wr w.heap.size (fun x => w.heap.size ≤ x ∧ x < wr.heap.size) b t c ra rn rc L) ∧ Hid (LOK (lsOf b t c L)) ∧ Hid ((lsOf b t c []).apps (L0.map pe) = (lsOf b t c L).apps ((L0.drop k).map pe)) ∧ Hid (Below w.heap.size w wr)) (fun i _ => n - (intOf i).toNat)
  case atStart => exact ⟨0, none, 0, 0, [], rfl, Nat.zero_le _, Nat.le_refl _, A2, K2, Lib.hid rfl, B1⟩
  case round =>
    obtain ⟨k, ra, rn, rc, L, rfl, hk, hek, HG, HK, HA, HB⟩ := hrel
    by_cases hlt : k < n
    · obtain ⟨x1, o1, rfl, hx1, hf1, hk1⟩ := H.out.at HB.out k hlt
      have hdr := drop_pe L0 k hk1
      obtain ⟨⟨e, l⟩, hq⟩ : ∃ y, L0.getD k Ez = y := ⟨_, rfl⟩
      rw [hq] at hx1 hf1 hdr
      dsimp only at hx1 hf1
      have X1 := Lib.hid hx1
      have F1 := Lib.hid hf1
      have HA2 := Lib.hid (HA.out.trans (by rw [hdr]))
      have HAn := Lib.hid (show (lsOf b t c L).l.length + 1 ≤ 200 by have := HG.out.len; show (L.map pe).length + 1 ≤ 200; rw [List.length_map]; omega)
      have g1 : (0 : Int) ≤ (k : Int) := by omega
      have g2 : (k : Int) < (n : Int) := by omega
      clear hx1 hf1 hq hdr hk1
      obtain ⟨er, her⟩ : ∃ er, ((lsOf b t c L).app (pe (e, l))).2 = er := ⟨_, rfl⟩
      have HER := Lib.hid her
      clear her
      by_cases hz : er = 0
      · have hz1 : (er == 0) = true := by simpa using hz
        have hz2 : (er != 0) = false := by simpa using hz
        go_wp2_with (first
          | ((with_reducible refine load_cells (o := ⟨some 26, _, _, _, _, _⟩) rfl _ _ rfl x1 (o1 + k * 4) ?_ e.cells _ X1.out Try.underlying34 rfl ?_ ?_); (focus go_simp); (focus (exact ES.out)))
            | (go_at_call 15; refine (xappend w.heap.size _ b t c ra rn rc L e l wr HG.out HK.out F1.out).mono ?_; rw [HER.out]; rintro x w4 ⟨ea', en', ec', L', rfl, hG, heq, hft⟩; have EQ4 := Lib.hid heq; have B4 := Lib.hid (HB.out.trans (hft.below HB.out.size (fun k hk => hk.1))); have G4 : Hid (XG w4 w.heap.size (fun x => w.heap.size ≤ x ∧ x < w4.heap.size) b t c ea' en' ec' L') := Lib.hid (hG.sub (fun k hk => hk.elim (fun h => ⟨h.1, by have := hft.size; have := h.2; omega⟩) (fun h => ⟨Nat.le_trans HB.out.size h.1, h.2⟩)) (fun k hk => hk.2)); clear hG heq hft))
        go_roundw
        case rel =>
          refine ⟨k + 1, ea', en', ec', L', vint (by omega), by omega, ?_, G4, Lib.hid (by rw [EQ4.out]; exact HK.out.app HAn.out), Lib.hid ?_, B4⟩
          · have h1 := LS.app_len (lsOf b t c L) (pe (e, l))
            rw [← EQ4.out] at h1
            have h2 : (lsOf b t c L').l.length = en' := by show (L'.map pe).length = en'; rw [List.length_map]; exact G4.out.len
            have h3 : (lsOf b t c L).l.length = rn := by show (L.map pe).length = rn; rw [List.length_map]; exact HG.out.len
            omega
          · rw [HA2.out, apps_go (by rw [HER.out]; exact hz), EQ4.out]
        case measure => (simp [intOf]; try omega)
      · have hz1 : (er == 0) = false := by simpa using hz
        have hz2 : (er != 0) = true := by simpa using hz
        go_wp2_with (first
          | ((with_reducible refine load_cells (o := ⟨some 26, _, _, _, _, _⟩) rfl _ _ rfl x1 (o1 + k * 4) ?_ e.cells _ X1.out Try.underlying34 rfl ?_ ?_); (focus go_simp); (focus (exact ES.out)))
            | (go_at_call 15; refine (xappend w.heap.size _ b t c ra rn rc L e l wr HG.out HK.out F1.out).mono ?_; rw [HER.out]; rintro x w4 ⟨ea', en', ec', L', rfl, hG, heq, hft⟩; have EQ4 := Lib.hid heq; have B4 := Lib.hid (HB.out.trans (hft.below HB.out.size (fun k hk => hk.1))); have G4 : Hid (XG w4 w.heap.size (fun x => w.heap.size ≤ x ∧ x < w4.heap.size) b t c ea' en' ec' L') := Lib.hid (hG.sub (fun k hk => hk.elim (fun h => ⟨h.1, by have := hft.size; have := h.2; omega⟩) (fun h => ⟨Nat.le_trans HB.out.size h.1, h.2⟩)) (fun k hk => hk.2)); clear hG heq hft))
        go_ret
        have hst := HA2.out.trans (apps_stop (by rw [HER.out]; exact hz))
        have hsame : ((lsOf b t c L).app (pe (e, l))).1 = lsOf b t c L := by
          have h1 := HER.out
          revert h1
          unfold LS.app
          split
          · intro _; rfl
          · split
            · intro h1; exact absurd h1.symm hz
            · intro _; rfl
        have h2 : (lsOf b t c L').l.length = en' := by show (L'.map pe).length = en'; rw [List.length_map]; exact G4.out.len
        have h3 : (lsOf b t c L).l.length = rn := by show (L.map pe).length = rn; rw [List.length_map]; exact HG.out.len
        have h4 := EQ4.out.trans hsame
        exact ⟨w.heap.size, _, ea', en', ec', L', rfl, G4.out, by rw [h4, hst], by rw [h4]; exact HK.out, by rw [G4.out.len]; rw [h4] at h2; omega, fun x hx => hx.1, B4.out⟩
    · obtain rfl : k = n := by omega
      go_wp2_with fail
      go_ret
      have h1 := HA.out
      rw [List.drop_of_length_le (by rw [HL.out]; exact Nat.le_refl _)] at h1
      exact ⟨w.heap.size, _, ra, rn, rc, L, rfl, HG.out, h1.symm, HK.out, by rw [HG.out.len]; exact hek, fun x hx => hx.1, HB.out⟩
set_option maxRecDepth 100000 in
set_option maxHeartbeats 8000000 in
theorem xfrom (p : Nat) (F : Nat → Prop) (b t c : Int) (a : Option Addr) (n cp : Nat) (L : List (En × List UInt8)) (i m : Int) (w : World) (h : XG w p F b t c a n cp L) (ho : LOK (lsOf b t c L)) (wi : (Lit.int .i64 i).wf = true) :
    Calls Try.prog 24 #[.pointer (some ⟨p, 0, none⟩), .int .i64 i, .int .i64 m] w fun x w' => ∃ ra rn rc R, x = .returned (.slice ra rn rc) ∧ Fre w' w.heap.size ra rn rc R ∧ R.map pe = (lsOf b t c L).from i m ∧ Below w.heap.size w w' := by
  have hl := h.len
  have hb := ho.b
  have hn := ho.n
  rw [show (lsOf b t c L).l.length = n by rw [← hl]; simp [lsOf]] at hn
  dsimp only [lsOf] at hb
  have hv : (lsOf b t c L).last = b + (n : Int) := by unfold LS.last lsOf; dsimp only; rw [List.length_map, hl]
  have GL := Lib.hid (fun (W : World) (hb : Below w.heap.size w W) => xlast p F b t c a n cp L W (h.mono hb) ho)
  rw [hv] at GL
  have H := Lib.hid h
  obtain ⟨c0, c1, c2, c3⟩ := h.row.q4
  have HROW := Lib.hid (fun (W : World) (hb : Below w.heap.size w W) => h.row.below hb h.row.lt)
  have hhv : (lsOf b t c L).has i = (decide (b < i) && decide (i ≤ b + (n : Int))) := by unfold LS.has; rw [hv]; rfl
  unfold LS.from
  by_cases hib : i ≤ b
  · have hhas : (lsOf b t c L).has i = false := by rw [hhv, decide_eq_false (show ¬ b < i by omega)]; rfl
    rw [hhas, if_neg (by decide)]
    have g0 : decide (b < i) = false := by simp; omega
    clear h ho hv hhv hhas
    go_enter Try.func24, Try.ntmps24
    go_wp2_with fail
    go_loopw [7, 8] (fun v iv wr => v = .slice none 0 0 ∧ iv = .int .i64 i ∧ wr = w) (fun _ iv _ => 0)
    case atStart => exact ⟨rfl, rfl, rfl⟩
    case round =>
      obtain ⟨rfl, rfl, rfl⟩ := hrel
      go_wp2_with fail
      go_ret
      exact ⟨none, 0, 0, [], rfl, Fre.nil _ _, rfl, Below.refl _ _⟩
  · by_cases hil : i ≤ b + (n : Int)
    · have hhas : (lsOf b t c L).has i = true := by rw [hhv, decide_eq_true (show b < i by omega), decide_eq_true hil]; rfl
      rw [hhas, if_pos rfl]
      obtain ⟨k, hk⟩ : ∃ k : Nat, i = b + 1 + (k : Int) := ⟨(i - b - 1).toNat, by omega⟩
      have hkn : k < n := by omega
      have hkt : (i - (lsOf b t c L).b - 1).toNat = k := by show (i - b - 1).toNat = k; omega
      have hqm2 : (lsOf b t c L).l.drop k = (L.map pe).drop k := rfl
      rw [hkt, hqm2]
      -- how many are taken
      obtain ⟨q, hq1, hq2⟩ : ∃ q : Nat, k + q ≤ n ∧ ((q = n - k ∧ (q : Int) ≤ max m 0) ∨ (q : Int) = max m 0) := by
        by_cases h1 : max m 0 ≤ ((n - k : Nat) : Int)
        · exact ⟨(max m 0).toNat, by omega, .inr (by omega)⟩
        · exact ⟨n - k, by omega, .inl ⟨rfl, by omega⟩⟩
      have hdl : ((L.map pe).drop k).length = n - k := by rw [List.length_drop, List.length_map, hl]
      have hqm : ((L.map pe).drop k).take m.toNat = ((L.map pe).drop k).take q := by
        rcases hq2 with ⟨h1, h2⟩ | h1
        · rw [List.take_of_length_le (by omega), List.take_of_length_le (by omega)]
        · rw [show m.toNat = q by omega]
      rw [hqm]
      have HE := Lib.hid (fun (W : World) (hb : Below w.heap.size w W) (j : Nat) (hj : j < n) => h.es.at hb j hj)
      have HFIT := Lib.hid (fun (k : Nat) (hk : k < n) => (show (L.getD k Ez).1.n ≤ 140737488355000 from by
        have hm : L.getD k Ez ∈ L := by rw [show L.getD k Ez = L[k]'(by omega) by simp [List.getD_eq_getElem?_getD, show k < L.length by omega]]; exact List.getElem_mem _
        have := ho.x (pe (L.getD k Ez)) (List.mem_map.2 ⟨_, hm, rfl⟩)
        have h3 := (h.es.hfit _ hm).rd.hlen
        have h4 : (L.getD k Ez).2.length ≤ 4096 := this
        omega))
      have ES := Lib.hid en_size
      have HQ1 := Lib.hid hq1
      have HQ2 := Lib.hid hq2
      have HIK := Lib.hid hk
      have HBB := Lib.hid hb
      have HNN := Lib.hid hn
      have gq : q ≤ 200 := by omega
      have g0 : decide (b < i) = true := by simp; omega
      clear h ho hv hhv hhas hkt hqm2 hdl hqm hq2 hk hil hib hb hl hkn hq1 hn
      go_enter Try.func24, Try.ntmps24
      go_wp2_with fail
      go_loopw [7, 8] (fun v iv wr => ∃ (j : Nat) (ra : Option Addr) (rc : Nat) (R : List (En × List UInt8)) (z : Int), v = .slice ra j rc ∧ iv = .int .i64 z ∧ j ≤ q ∧ Hid (z = i + (j : Int)) ∧ Hid (Fre wr w.heap.size ra j rc R) ∧ Hid (R.map pe = ((L.map pe).drop k).take j) ∧ Hid (Below w.heap.size w wr)) (fun v _ _ => q - (match v with | .slice _ j _ => j | _ => 0))
      case atStart => exact ⟨0, none, 0, [], i, rfl, rfl, Nat.zero_le _, Lib.hid (by omega), Lib.hid (Fre.nil _ _), Lib.hid rfl, Lib.hid (Below.refl _ _)⟩
      case round =>
        obtain ⟨j, ra, rc, R, z, rfl, rfl, hj, HZ, HF, HR, HB⟩ := hrel
        obtain ⟨c0, c1, c2, c3⟩ := (HROW.out wr HB.out).q4
        by_cases hlt : j < q
        · have hkj : k + j < n := by have := HQ1.out; omega
          have hjm : j ≤ 1000000 := by omega
          obtain ⟨x1, o1, rfl, hx1, hf1, hk1⟩ := HE.out wr HB.out (k + j) hkj
          have hnx := HFIT.out (k + j) hkj
          have hstep := take_drop_pe L (k := k) (j := j) hk1
          obtain ⟨⟨e, l⟩, hq⟩ : ∃ y, L.getD (k + j) Ez = y := ⟨_, rfl⟩
          rw [hq] at hx1 hf1 hnx hstep
          dsimp only at hx1 hf1 hnx
          obtain ⟨x0, o0, he0, hx0, -, -⟩ := HE.out w (Below.refl _ _) (k + j) hkj
          simp only [Option.some.injEq, Addr.mk.injEq, and_true] at he0
          obtain ⟨rfl, rfl⟩ := he0
          rw [hq] at hx0
          dsimp only at hx0
          have X0 := Lib.hid hx0
          have F1 := Lib.hid hf1
          have HS := Lib.hid hstep
          have t1 : decide (z ≤ b + (n : Int)) = true := by simp; have := HZ.out; have := HIK.out; omega
          have t2 : decide ((j : Int) < m) = true := by simp; have := HQ2.out; omega
          have gw1 : IntKind.i64.wrap (z - b) = z - b := by rw [IntKind.wrap_i64]; have := HZ.out; have := HIK.out; have := HBB.out; have := HNN.out; omega
          have gw2 : IntKind.i64.wrap (z - b - 1) = ((k + j : Nat) : Int) := by rw [IntKind.wrap_i64]; have := HZ.out; have := HIK.out; have := HBB.out; have := HNN.out; omega
          have gw3 : IntKind.i64.wrap (z + 1) = z + 1 := by rw [IntKind.wrap_i64]; have := HZ.out; have := HIK.out; have := HBB.out; have := HNN.out; omega
          have t3 : z ≤ b + (n : Int) := by have := HZ.out; have := HIK.out; omega
          have t4 : (j : Int) < m := by have := HQ2.out; omega
          have g5 : (0 : Int) ≤ ((k + j : Nat) : Int) := by omega
          have g6 : ((k + j : Nat) : Int) < (n : Int) := by omega
          obtain ⟨kj, hkj2⟩ : ∃ kj, k + j = kj := ⟨_, rfl⟩
          rw [hkj2] at gw2 g5 g6 X0
          clear hx0 hx1 hf1 hq hk1 hstep hkj hkj2
          go_wp2_with (first | (go_at_call 37; (with_reducible refine (GL.out wr HB.out).mono ?_); rintro x w1 ⟨rfl, hb1⟩; have C1 := Lib.hid hb1; have B1 := Lib.hid (HB.out.trans (hb1.mono HB.out.size)); clear hb1))
          clear c0 c1 c2 c3
          refine region_h (fun v => Below w.heap.size w v) (by kernel_rfl) (by kernel_rfl) B1.out.drew ?_
          obtain ⟨wd, hwd⟩ : ∃ wd, w1.drew = wd := ⟨_, rfl⟩
          have D0 : Hid (Below w1.heap.size w1 wd) := Lib.hid (by rw [← hwd]; exact (Below.refl _ _).drew)
          rw [hwd]
          clear hwd
          (refine h_read 0 rfl (by kernel_rfl) (by kernel_rfl) (h_free rfl) ?_ ?_ ?_; rotate_left; (focus (intro v hv; go_simp; rfl)); go_simp)
          (refine h_read 1 rfl (by kernel_rfl) (by kernel_rfl) (h_free rfl) ?_ ?_ ?_; rotate_left; (focus (intro v hv; go_simp; rfl)); go_simp)
          (refine h_read 2 rfl (by kernel_rfl) (by kernel_rfl) (h_free rfl) ?_ ?_ ?_; rotate_left; (focus (intro v hv; go_simp; rfl)); go_simp)
          (refine h_read 3 rfl (by kernel_rfl) (by kernel_rfl) (h_free rfl) ?_ ?_ ?_; rotate_left; (focus (intro v hv; go_simp; rfl)); go_simp)
          (refine h_read 4 rfl (by kernel_rfl) (by kernel_rfl) (h_free rfl) ?_ ?_ ?_; rotate_left; (focus (intro v hv; have hbv := hv; obtain ⟨c0, c1, c2, c3⟩ := (H.out.mono hbv).row.q4; go_simp; rfl)); go_simp)
          (refine h_read 5 rfl (by kernel_rfl) (by kernel_rfl) (h_free rfl) ?_ ?_ ?_; rotate_left; (focus (intro v hv; go_simp; rfl)); go_simp)
          (refine h_read 6 rfl (by kernel_rfl) (by kernel_rfl) (h_free rfl) ?_ ?_ ?_; rotate_left; (focus (intro v hv; go_simp; rfl)); go_simp)
          (refine h_read 7 rfl (by kernel_rfl) (by kernel_rfl) (h_free rfl) ?_ ?_ ?_; rotate_left; (focus (intro v hv; go_simp; rfl)); go_simp)
          (refine h_read 8 rfl (by kernel_rfl) (by kernel_rfl) (h_free rfl) ?_ ?_ ?_; rotate_left; (focus (intro v hv; go_simp; rfl)); go_simp)
          (refine h_read 9 rfl (by kernel_rfl) (by kernel_rfl) (h_free rfl) ?_ ?_ ?_; rotate_left; (focus (intro v hv; have hbv := hv; obtain ⟨c0, c1, c2, c3⟩ := (H.out.mono hbv).row.q4; go_simp; rfl)); go_simp)
          (refine h_read 10 rfl (by kernel_rfl) (by kernel_rfl) (h_free rfl) ?_ ?_ ?_; rotate_left; (focus (intro v hv; go_simp; rfl)); go_simp)
          (refine h_read 11 rfl (by kernel_rfl) (by kernel_rfl) (h_free rfl) ?_ ?_ ?_; rotate_left; (focus (intro v hv; go_simp; rfl)); go_simp)
          (refine h_read 12 rfl (by kernel_rfl) (by kernel_rfl) (h_free rfl) ?_ ?_ ?_; rotate_left; (focus (intro v hv; go_simp; rfl)); go_simp)
          (refine h_read 13 rfl (by kernel_rfl) (by kernel_rfl) (h_free rfl) ?_ ?_ ?_; rotate_left; (focus (intro v hv; refine run_cells 34 (.tmp 42) ?_ x1 (o1 + kj * 4) ?_ e.cells _ (fun j' u hj' => (hv.cell (p := ⟨x1, o1 + kj * 4 + j', none⟩) (World.block_lt_of_cell? w _ (X0.out j' u hj'))).trans (X0.out j' u hj')) Try.underlying34 rfl en_size; (focus rfl); go_simp)); go_simp)
          (refine h_call 14 rfl (by kernel_rfl) (h_free rfl) 45 ?_ ?_ ?_; rotate_left; (focus (go_simp; rfl)))
          have BW := Lib.hid (C1.out.trans (D0.out.mono C1.out.size))
          refine (xcopied e l wd (F1.out.rd.mono BW.out) hnx).mono ?_
          rintro x w4 ⟨qa, qc, rfl, hrd, hfr, hb⟩
          have R4 := Lib.hid hrd
          have FR4 := Lib.hid (fun b' off e' => Nat.le_trans BW.out.size (hfr b' off e'))
          have C4 := Lib.hid (BW.out.trans (hb.mono BW.out.size))
          have D4 := Lib.hid (HB.out.trans (C4.out.mono HB.out.size))
          clear hrd hfr hb
          refine ⟨_, rfl, D4.out, ?_⟩
          go_simp
          (refine h_list 15 rfl (by kernel_rfl) ?_; intro K hK)
          refine build_en rfl _ rfl ⟨e.ix, e.tm, e.kd, qa, e.n, qc⟩ (by go_simp) ?_
          intro w5 hr5 hb5 hz5
          have A5 := Lib.hid hr5
          have C5 := Lib.hid hb5
          have D5 := Lib.hid (D4.out.trans (hb5.mono D4.out.size))
          have Oa := Lib.hid ((HF.out.mono (C4.out.trans (hb5.mono C4.out.size))).es)
          clear hr5 hb5 hz5
          refine hK _ _ D5.out ?_
          go_simp
          (refine h_list 16 rfl (by kernel_rfl) ?_; intro K hK)
          refine append_en rfl _ _ rfl ra j rc (R.map (·.1)) (by go_simp) Oa.out hjm ⟨w4.heap.size, 0, none⟩ 1 ⟨e.ix, e.tm, e.kd, qa, e.n, qc⟩ (by go_simp) (fun i u hi => by rw [Go.WideShapes.add_plain, Nat.zero_add, A5.out.cellV]; exact hi) ?_
          intro a' cp' w6 ho hcase
          have AP := Lib.hid (Fre.app (l := l) (e := ⟨e.ix, e.tm, e.kd, qa, e.n, qc⟩) HF.out C4.out HB.out.size R4.out FR4.out F1.out.ix F1.out.tm F1.out.kd A5.out C5.out ho hcase)
          clear ho hcase
          refine hK _ _ (HB.out.trans AP.out.2) ?_
          go_simp
          (refine h_read 17 rfl (by kernel_rfl) (by kernel_rfl) (h_free rfl) ?_ ?_ ?_; rotate_left; (focus (intro v hv; go_simp; rfl)); go_simp)
          refine h_done (by kernel_rfl) ?_

          go_wp2_with fail
          go_roundw
          case rel => exact ⟨j + 1, a', cp', R ++ [(⟨e.ix, e.tm, e.kd, qa, e.n, qc⟩, l)], z + 1, rfl, rfl, by omega, Lib.hid (by rw [HZ.out]; omega), Lib.hid AP.out.1, Lib.hid (by rw [List.map_append, HR.out, HS.out]; rfl), Lib.hid (HB.out.trans AP.out.2)⟩
          case measure => (simp; try omega)
        · obtain rfl : j = q := by omega
          by_cases hz : z ≤ b + (n : Int)
          · have t1 : decide (z ≤ b + (n : Int)) = true := decide_eq_true hz
            have t2 : decide ((j : Int) < m) = false := by simp; have := HQ2.out; have := HZ.out; have := HIK.out; omega
            have t5 : m ≤ (j : Int) := by have := HQ2.out; have := HZ.out; have := HIK.out; omega
            go_wp2_with (first | (go_at_call 37; (with_reducible refine (GL.out wr HB.out).mono ?_); rintro x w1 ⟨rfl, hb1⟩; have C1 := Lib.hid hb1; have B1 := Lib.hid (HB.out.trans (hb1.mono HB.out.size)); clear hb1))
            go_ret
            exact ⟨ra, _, rc, R, rfl, HF.out.mono C1.out, HR.out, B1.out⟩
          · have t1 : decide (z ≤ b + (n : Int)) = false := decide_eq_false hz
            have t5 : b + (n : Int) < z := by omega
            go_wp2_with (first | (go_at_call 37; (with_reducible refine (GL.out wr HB.out).mono ?_); rintro x w1 ⟨rfl, hb1⟩; have C1 := Lib.hid hb1; have B1 := Lib.hid (HB.out.trans (hb1.mono HB.out.size)); clear hb1))
            go_ret
            exact ⟨ra, _, rc, R, rfl, HF.out.mono C1.out, HR.out, B1.out⟩
    · have hhas : (lsOf b t c L).has i = false := by rw [hhv, decide_eq_false hil, Bool.and_false]
      rw [hhas, if_neg (by decide)]
      have g0 : decide (b < i) = true := by simp; omega
      have g1 : decide (i ≤ b + (n : Int)) = false := decide_eq_false hil
      have g2 : b + (n : Int) < i := by omega
      clear h ho hv hhv hhas
      go_enter Try.func24, Try.ntmps24
      go_wp2_with fail
      go_loopw [7, 8] (fun v iv wr => v = .slice none 0 0 ∧ iv = .int .i64 i ∧ wr = w) (fun _ iv _ => 0)
      case atStart => exact ⟨rfl, rfl, rfl⟩
      case round =>
        obtain ⟨rfl, rfl, rfl⟩ := hrel
        go_wp2_with (first | (go_at_call 37; (with_reducible refine (GL.out _ (Below.refl _ _)).mono ?_); rintro x w1 ⟨rfl, hb1⟩; have B1 := Lib.hid hb1; clear hb1))
        go_ret
        exact ⟨none, 0, 0, [], rfl, Fre.nil _ _, rfl, B1.out⟩
end Go.Proofs.Ytnlbdgaleibgcaa.W
