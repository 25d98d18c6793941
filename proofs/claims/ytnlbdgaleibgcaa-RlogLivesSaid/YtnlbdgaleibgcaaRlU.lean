/- LAYER 13 (rlog): the reference's log by its plain one; both logs side by side; the law's same. LAYER 13 (rlog): the law's calls, as they came in. -/
import Derived.Test.YtnlbdgaleibgcaaRlZ
import Derived.Test.YtnlbdgaleibgcaaRlP
import Derived.Test.YtnlbdgaleibgcaaRlR
set_option linter.unusedSimpArgs false
set_option linter.unusedVariables false
namespace Go.Proofs.Ytnlbdgaleibgcaa.W
open Go Go.ChangeShapes Go.WideShapes Go.ChangeAt Go.RowKit

/-- the reference's log, by its plain one -/
structure XL (q : LS) (w : World) (p : Nat) (F : Nat → Prop) : Prop where
  ok : LOK q
  ex : ∃ a n cp L, XG w p F q.b q.t q.c a n cp L ∧ lsOf q.b q.t q.c L = q
  lt : ∀ k, F k → k < w.heap.size
theorem XL.mk' {w : World} {p : Nat} {F : Nat → Prop} {b t c : Int} {a : Option Addr} {n cp : Nat} {L : List (En × List UInt8)} {q : LS} (h : XG w p F b t c a n cp L) (hq : lsOf b t c L = q) (ho : LOK q) : XL q w p F := by
  subst hq
  exact ⟨ho, ⟨a, n, cp, L, h, rfl⟩, h.lt⟩
theorem XL.ft {q : LS} {w w' : World} {p : Nat} {F G : Nat → Prop} (h : XL q w p F) (k : Ft G w w') (hd : ∀ x, F x → ¬ G x) : XL q w' p F := by
  obtain ⟨a, n, cp, L, hL, hq⟩ := h.ex
  exact ⟨h.ok, ⟨a, n, cp, L, hL.ft k hd, hq⟩, fun x hx => Nat.lt_of_lt_of_le (h.lt x hx) k.size⟩
/-- both logs: the program's, the reference's; their blocks are apart, all from base on -/
structure PR (q1 q2 : LS) (w : World) (p p' : Nat) (F G : Nat → Prop) (base : Nat) : Prop where
  g : GL q1 w p F
  x : XL q2 w p' G
  dj : ∀ k, F k → ¬ G k
  fb : ∀ k, F k → base ≤ k
  gb : ∀ k, G k → base ≤ k
  bw : base ≤ w.heap.size
section
variable {q1 q2 : LS} {w w' : World} {p p' : Nat} {F G : Nat → Prop} {base : Nat}
theorem PR.ft {S : Nat → Prop} (h : PR q1 q2 w p p' F G base) (k : Ft S w w') (hd : ∀ x, S x → ¬ F x ∧ ¬ G x) : PR q1 q2 w' p p' F G base :=
  ⟨h.g.ft k (fun x hf hs => (hd x hs).1 hf), h.x.ft k (fun x hf hs => (hd x hs).2 hf), h.dj, h.fb, h.gb, Nat.le_trans h.bw k.size⟩
theorem PR.mono (h : PR q1 q2 w p p' F G base) (hb : Below w.heap.size w w') : PR q1 q2 w' p p' F G base :=
  h.ft (Ft.of_below (F := fun _ => False) hb) (fun _ h => h.elim)
theorem PR.old (h : PR q1 q2 w p p' F G base) {k : Nat} (hk : w.heap.size ≤ k) : ¬ F k ∧ ¬ G k := ⟨fun hf => absurd (h.g.lt k hf) (Nat.not_lt.2 hk), fun hg => absurd (h.x.lt k hg) (Nat.not_lt.2 hk)⟩
theorem PR.gstep {q : LS} {F' : Nat → Prop} (h : PR q1 q2 w p p' F G base) (hg : GL q w' p F') (k : Ft F w w') (hF : ∀ x, F' x → F x ∨ (w.heap.size ≤ x ∧ x < w'.heap.size)) : PR q q2 w' p p' F' G base :=
  ⟨hg, h.x.ft k (fun x hx hf => h.dj x hf hx), fun x hx hgx => (hF x hx).elim (fun hf => h.dj x hf hgx) (fun hn => absurd (h.x.lt x hgx) (Nat.not_lt.2 hn.1)), fun x hx => (hF x hx).elim (h.fb x) (fun hn => Nat.le_trans h.bw hn.1), h.gb, Nat.le_trans h.bw k.size⟩
theorem PR.xstep {q : LS} {G' : Nat → Prop} (h : PR q1 q2 w p p' F G base) (hx : XL q w' p' G') (k : Ft G w w') (hG : ∀ x, G' x → G x ∨ (w.heap.size ≤ x ∧ x < w'.heap.size)) : PR q1 q w' p p' F G' base :=
  ⟨h.g.ft k (fun x hf hg => h.dj x hf hg), hx, fun x hf hgx => (hG x hgx).elim (fun hg => h.dj x hf hg) (fun hn => absurd (h.g.lt x hf) (Nat.not_lt.2 hn.1)), h.fb, fun x hx => (hG x hx).elim (h.gb x) (fun hn => Nat.le_trans h.bw hn.1), Nat.le_trans h.bw k.size⟩
theorem ylast (h : XL q1 w p F) : Calls Try.prog 37 #[.pointer (some ⟨p, 0, none⟩)] w fun x w' => x = .returned (.int .i64 q1.last) ∧ Below w.heap.size w w' := by
  obtain ⟨a, n, cp, L, hL, hq⟩ := h.ex
  have := xlast p F q1.b q1.t q1.c a n cp L w hL (by rw [hq]; exact h.ok)
  rwa [hq] at this
theorem ylastT (h : XL q1 w p F) : Calls Try.prog 38 #[.pointer (some ⟨p, 0, none⟩)] w fun x w' => x = .returned (.int .i64 (q1.term q1.last)) ∧ Below w.heap.size w w' := by
  obtain ⟨a, n, cp, L, hL, hq⟩ := h.ex
  have := xlastT p F q1.b q1.t q1.c a n cp L w hL (by rw [hq]; exact h.ok)
  rwa [hq] at this
theorem yterm (h : XL q1 w p F) (i : Int) : Calls Try.prog 36 #[.pointer (some ⟨p, 0, none⟩), .int .i64 i] w fun x w' => x = .returned (.tuple #[.int .i64 (q1.term i), .int .i64 (q1.termE i)]) ∧ Below w.heap.size w w' := by
  obtain ⟨a, n, cp, L, hL, hq⟩ := h.ex
  have := xterm p F q1.b q1.t q1.c a n cp L i w hL (by rw [hq]; exact h.ok)
  rwa [hq] at this
theorem yconf (h : XL q1 w p F) : Calls Try.prog 39 #[.pointer (some ⟨p, 0, none⟩)] w fun x w' => x = .returned (.int .i64 (q1.confAt q1.last)) ∧ Below w.heap.size w w' := by
  obtain ⟨a, n, cp, L, hL, hq⟩ := h.ex
  have := xconf p F q1.b q1.t q1.c a n cp L w hL (by rw [hq]; exact h.ok)
  rwa [hq] at this
theorem yconfAt (h : XL q1 w p F) (i : Int) : Calls Try.prog 40 #[.pointer (some ⟨p, 0, none⟩), .int .i64 i] w fun x w' => x = .returned (.int .i64 (q1.confAt i)) ∧ Below w.heap.size w w' := by
  obtain ⟨a, n, cp, L, hL, hq⟩ := h.ex
  have := xconfAt p F q1.b q1.t q1.c a n cp L i w hL (by rw [hq]; exact h.ok)
  rwa [hq] at this
theorem yfrom (h : XL q1 w p F) (i m : Int) (wi : (Lit.int .i64 i).wf = true) : Calls Try.prog 24 #[.pointer (some ⟨p, 0, none⟩), .int .i64 i, .int .i64 m] w fun x w' => ∃ a n cp R, x = .returned (.slice a n cp) ∧ Fre w' w.heap.size a n cp R ∧ R.map pe = q1.from i m ∧ Below w.heap.size w w' := by
  obtain ⟨a, n, cp, L, hL, hq⟩ := h.ex
  have := xfrom p F q1.b q1.t q1.c a n cp L i m w hL (by rw [hq]; exact h.ok) wi
  rwa [hq] at this
theorem FG.in {k : Nat} (h : FG F w w' k) : F k ∨ (w.heap.size ≤ k ∧ k < w'.heap.size) := h
theorem pgappend (h : PR q1 q2 w p p' F G base) (e : En) (l : List UInt8) (he : EnF w e l) (hn : q1.l.length + 1 ≤ 200) : Calls Try.prog 14 #[.pointer (some ⟨p, 0, none⟩), .agg e.cells.toArray] w fun x w' => x = .returned (.int .i64 (q1.app (pe (e, l))).2) ∧ (∃ F', PR (q1.app (pe (e, l))).1 q2 w' p p' F' G base ∧ ∀ x, F' x → F x ∨ w.heap.size ≤ x) ∧ Ft F w w' :=
  (qappend h.g e l he hn).mono fun _ _ ⟨h1, h2, h3⟩ => ⟨h1, ⟨_, h.gstep h2 h3 (fun _ hx => hx), fun x hx => hx.imp id (fun h9 => h9.1)⟩, h3⟩
theorem pxappend (h : PR q1 q2 w p p' F G base) (e : En) (l : List UInt8) (he : EnF w e l) (hn : q2.l.length + 1 ≤ 200) : Calls Try.prog 15 #[.pointer (some ⟨p', 0, none⟩), .agg e.cells.toArray] w fun x w' => x = .returned (.int .i64 (q2.app (pe (e, l))).2) ∧ (∃ G', PR q1 (q2.app (pe (e, l))).1 w' p p' F G' base ∧ ∀ x, G' x → G x ∨ w.heap.size ≤ x) ∧ Ft G w w' := by
  obtain ⟨a, n, cp, L, hL, hq⟩ := h.x.ex
  refine (xappend p' G q2.b q2.t q2.c a n cp L e l w hL (by rw [hq]; exact h.x.ok) he).mono ?_
  rintro x w' ⟨a', n', cp', L', rfl, hL', heq, hft⟩
  rw [hq] at heq
  exact ⟨by rw [hq], ⟨_, h.xstep (XL.mk' hL' heq (h.x.ok.app hn)) hft (fun _ hx => hx), fun x hx => hx.imp id (fun h9 => h9.1)⟩, hft⟩
theorem pgcut (h : PR q1 q2 w p p' F G base) (i : Int) : Calls Try.prog 16 #[.pointer (some ⟨p, 0, none⟩), .int .i64 i] w fun x w' => x = .returned (.int .i64 (q1.cut i).2) ∧ (∃ F', PR (q1.cut i).1 q2 w' p p' F' G base) ∧ Ft F w w' :=
  (qcut h.g i).mono fun _ _ ⟨h1, h2, h3⟩ => ⟨h1, ⟨_, h.gstep h2 h3 (fun _ hx => .inl hx)⟩, h3⟩
theorem pxcut (h : PR q1 q2 w p p' F G base) (i : Int) : Calls Try.prog 17 #[.pointer (some ⟨p', 0, none⟩), .int .i64 i] w fun x w' => x = .returned (.int .i64 (q2.cut i).2) ∧ (∃ G', PR q1 (q2.cut i).1 w' p p' F G' base) ∧ Ft G w w' := by
  obtain ⟨a, n, cp, L, hL, hq⟩ := h.x.ex
  refine (xcut p' G q2.b q2.t q2.c a n cp L i w hL (by rw [hq]; exact h.x.ok)).mono ?_
  rintro x w' ⟨b', t', c', a', n', cp', L', rfl, hL', heq, hft⟩
  rw [hq] at heq
  exact ⟨by rw [hq], ⟨_, h.xstep (XL.mk' hL' heq h.x.ok.cut) hft (fun _ hx => hx)⟩, hft⟩
theorem pgcompact (h : PR q1 q2 w p p' F G base) (i : Int) (hl : q1.last ≤ 4294967296) : Calls Try.prog 18 #[.pointer (some ⟨p, 0, none⟩), .int .i64 i] w fun x w' => x = .returned (.int .i64 (q1.compact i).2) ∧ (∃ F', PR (q1.compact i).1 q2 w' p p' F' G base) ∧ Ft F w w' :=
  (qcompact h.g i hl).mono fun _ _ ⟨h1, h2, h3⟩ => ⟨h1, ⟨_, h.gstep h2 h3 (fun _ hx => .inl hx)⟩, h3⟩
theorem pxcompact (h : PR q1 q2 w p p' F G base) (i : Int) (wi : (Lit.int .i64 i).wf = true) (hl : q2.last ≤ 4294967296) : Calls Try.prog 19 #[.pointer (some ⟨p', 0, none⟩), .int .i64 i] w fun x w' => x = .returned (.int .i64 (q2.compact i).2) ∧ (∃ G', PR q1 (q2.compact i).1 w' p p' F G' base) ∧ Ft G w w' := by
  obtain ⟨a, n, cp, L, hL, hq⟩ := h.x.ex
  refine (xcompact p' G q2.b q2.t q2.c a n cp L i w hL (by rw [hq]; exact h.x.ok) wi).mono ?_
  rintro x w' ⟨b', t', c', a', n', cp', L', rfl, hL', heq, hft⟩
  rw [hq] at heq
  have hok : LOK (q2.compact i).1 := by
    rcases h.x.ok.compact (i := i) hl with h1 | h1
    · exact h1.1
    · rw [h1]; exact h.x.ok
  exact ⟨by rw [hq], ⟨_, h.xstep (XL.mk' hL' heq hok) hft (fun _ hx => hx)⟩, hft⟩
theorem pgreset (h : PR q1 q2 w p p' F G base) (b t c : Int) (hb : 0 ≤ b ∧ b ≤ 4294967296) : Calls Try.prog 20 #[.pointer (some ⟨p, 0, none⟩), .int .i64 b, .int .i64 t, .int .i64 c] w fun x w' => (∃ v, x = .returned v) ∧ (∃ F', PR ⟨b, t, c, []⟩ q2 w' p p' F' G base) ∧ Ft F w w' :=
  (qreset h.g b t c hb).mono fun _ _ ⟨h1, h2, h3⟩ => ⟨h1, ⟨_, h.gstep h2 h3 (fun _ hx => .inl hx)⟩, h3⟩
theorem pxreset (h : PR q1 q2 w p p' F G base) (b t c : Int) (hb : 0 ≤ b ∧ b ≤ 4294967296) : Calls Try.prog 21 #[.pointer (some ⟨p', 0, none⟩), .int .i64 b, .int .i64 t, .int .i64 c] w fun x w' => (∃ v, x = .returned v) ∧ (∃ G', PR q1 ⟨b, t, c, []⟩ w' p p' F G' base) ∧ Ft G w w' := by
  obtain ⟨a, n, cp, L, hL, hq⟩ := h.x.ex
  refine (xreset p' G q2.b q2.t q2.c a n cp L b t c w hL).mono ?_
  rintro x w' ⟨hv, hL', hu⟩
  have hft : Ft G w w' := Ft.of_upd hu hL.fp
  exact ⟨hv, ⟨_, h.xstep (XL.mk' hL' rfl ⟨trivial, hb, Nat.zero_le _, by simp⟩) hft (fun _ hx => .inl hx)⟩, hft⟩
end
theorem from_all {q : LS} (h : q.l.length ≤ 100) : q.from (q.b + 1) 100 = q.l := by
  unfold LS.from
  have e1 : (q.b + 1 - q.b - 1).toNat = 0 := by omega
  rw [e1, List.drop_zero, show ((100 : Int)).toNat = 100 from rfl, List.take_of_length_le h]
  split
  · rfl
  · rename_i h1
    have : q.l.length = 0 := by
      unfold LS.has LS.last at h1
      simp at h1; omega
    exact (List.eq_nil_of_length_eq_zero this).symm
set_option maxRecDepth 100000 in
set_option maxHeartbeats 8000000 in
theorem lsame {q : LS} {w : World} {p p' : Nat} {F G : Nat → Prop} {base : Nat} (h : PR q q w p p' F G base) (i : Int) (hl : q.l.length ≤ 100) :
    Calls Try.prog 12 #[.pointer (some ⟨p, 0, none⟩), .pointer (some ⟨p', 0, none⟩), .int .i64 i] w fun x w' => x = .returned (.bool true) ∧ Below w.heap.size w w' := by
  obtain ⟨xa, xn, xc, XLs, hX, hXq⟩ := h.x.ex
  have hb := h.x.ok.b
  have HX := Lib.hid (fun (W : World) (hb : Below w.heap.size w W) => hX.mono hb)
  have HP := Lib.hid (fun (W : World) (hb : Below w.heap.size w W) => h.mono hb)
  have HXN := Lib.hid (show xn ≤ 1000000 by rw [← hX.len, ← List.length_map (f := pe)]; have : XLs.map pe = q.l := congrArg LS.l hXq; rw [this]; omega)
  have HXL := Lib.hid (show XLs.map pe = q.l from congrArg LS.l hXq)
  have fa := from_all hl
  have G1 := Lib.hid (fun (W : World) (hb : Below w.heap.size w W) => qterm (HP.out W hb).g i)
  have X1 := Lib.hid (fun (W : World) (hb : Below w.heap.size w W) => yterm (HP.out W hb).x i)
  have G2 := Lib.hid (fun (W : World) (hb : Below w.heap.size w W) => qbase (HP.out W hb).g)
  have G3 := Lib.hid (fun (W : World) (hb : Below w.heap.size w W) => qlast (HP.out W hb).g)
  have X3 := Lib.hid (fun (W : World) (hb : Below w.heap.size w W) => ylast (HP.out W hb).x)
  have G4 := Lib.hid (fun (W : World) (hb : Below w.heap.size w W) => qlastT (HP.out W hb).g)
  have X4 := Lib.hid (fun (W : World) (hb : Below w.heap.size w W) => ylastT (HP.out W hb).x)
  have G5 := Lib.hid (fun (W : World) (hb : Below w.heap.size w W) => qconf (HP.out W hb).g)
  have X5 := Lib.hid (fun (W : World) (hb : Below w.heap.size w W) => yconf (HP.out W hb).x)
  have G6 := Lib.hid (fun (W : World) (hb : Below w.heap.size w W) => qconfAt (HP.out W hb).g i)
  have X6 := Lib.hid (fun (W : World) (hb : Below w.heap.size w W) => yconfAt (HP.out W hb).x i)
  have G7 := Lib.hid (fun (W : World) (hb : Below w.heap.size w W) => qfrom (HP.out W hb).g (q.b + 1) 100 (by decide))
  rw [fa] at G7
  obtain ⟨bv, hbv⟩ : ∃ v, q.b = v := ⟨_, rfl⟩
  obtain ⟨lv, hlv⟩ : ∃ v, q.last = v := ⟨_, rfl⟩
  rw [hlv] at G3 X3 G4 X4 G5 X5
  obtain ⟨ltv, hltv⟩ : ∃ v, q.term lv = v := ⟨_, rfl⟩
  obtain ⟨tv, htv⟩ : ∃ v, q.term i = v := ⟨_, rfl⟩
  obtain ⟨te, hte⟩ : ∃ v, q.termE i = v := ⟨_, rfl⟩
  obtain ⟨cv, hcv⟩ : ∃ v, q.confAt lv = v := ⟨_, rfl⟩
  obtain ⟨ca, hca⟩ : ∃ v, q.confAt i = v := ⟨_, rfl⟩
  rw [hltv] at G4 X4
  rw [htv, hte] at G1 X1
  rw [hcv] at G5 X5
  rw [hca] at G6 X6
  rw [hbv] at G2 G7 HX hb
  have gw : IntKind.i64.wrap (bv + 1) = bv + 1 := by rw [IntKind.wrap_i64]; omega
  obtain ⟨ql, hql⟩ : ∃ v, q.l = v := ⟨_, rfl⟩
  rw [hql] at G7 HXL
  have B0 := Lib.hid (Below.refl w.heap.size w)
  clear h hX hXq hl fa hbv hlv hltv htv hte hcv hca hql hb
  go_enter Try.func12, Try.ntmps12
  go_wp2_with (first
    | (go_at_call 34; (with_reducible refine (G1.out w B0.out).mono ?_); rintro x w1 ⟨rfl, hb⟩; have B1 := Lib.hid (B0.out.trans (hb.mono B0.out.size)); clear hb)
    | (go_at_call 36; (with_reducible refine (X1.out w1 B1.out).mono ?_); rintro x w2 ⟨rfl, hb⟩; have B2 := Lib.hid (B1.out.trans (hb.mono B1.out.size)); clear hb))
  have R2x := Lib.hid (Below.refl w2.heap.size w2)
  refine region_h (fun v => Below w2.heap.size w2 v) (by kernel_rfl) (by kernel_rfl) (Below.refl _ _).drew ?_
  obtain ⟨v0, hv0⟩ : ∃ wd, w2.drew = wd := ⟨_, rfl⟩
  have J0 : Hid (Below w2.heap.size w2 v0) := Lib.hid (by rw [← hv0]; exact (Below.refl _ _).drew)
  rw [hv0]
  clear hv0
  (refine h_read 0 rfl (by kernel_rfl) (by kernel_rfl) (h_free rfl) ?_ ?_ ?_; rotate_left; (focus (intro v hv; go_simp; rfl)); go_simp)
  (refine h_read 2 rfl (by kernel_rfl) (by kernel_rfl) (h_free rfl) ?_ ?_ ?_; rotate_left; (focus (intro v hv; go_simp; rfl)); go_simp)
  (refine h_read 3 rfl (by kernel_rfl) (by kernel_rfl) (h_free rfl) ?_ ?_ ?_; rotate_left; (focus (intro v hv; go_simp; rfl)); go_simp)
  (refine h_read 4 rfl (by kernel_rfl) (by kernel_rfl) (h_free rfl) ?_ ?_ ?_; rotate_left; (focus (intro v hv; go_simp; rfl)); go_simp)
  (refine h_read 5 rfl (by kernel_rfl) (by kernel_rfl) (h_free rfl) ?_ ?_ ?_; rotate_left; (focus (intro v hv; obtain ⟨c0, c1, c2, c3⟩ := (HX.out v (B2.out.trans (hv.mono B2.out.size))).row.q4; go_simp; rfl)); go_simp)
  (refine h_call 1 rfl (by kernel_rfl) (h_free rfl) 33 ?_ ?_ ?_; rotate_left; (focus (go_simp; rfl)))
  refine (G2.out v0 (B2.out.trans (J0.out.mono B2.out.size))).mono ?_
  rintro x v1 ⟨rfl, hb⟩
  have J1 := Lib.hid (J0.out.trans (hb.mono J0.out.size))
  clear hb
  refine ⟨_, rfl, J1.out, ?_⟩
  go_simp
  (refine h_read 6 rfl (by kernel_rfl) (by kernel_rfl) (h_free rfl) ?_ ?_ ?_; rotate_left; (focus (intro v hv; go_simp; rfl)); go_simp)
  (refine h_read 7 rfl (by kernel_rfl) (by kernel_rfl) (h_free rfl) ?_ ?_ ?_; rotate_left; (focus (intro v hv; go_simp; rfl)); go_simp)
  (refine h_read 8 rfl (by kernel_rfl) (by kernel_rfl) ?_ ?_ ?_ ?_; (focus (go_simp; done)); rotate_left; (focus (intro v hv; go_simp; rfl)); go_simp)
  (refine h_read 10 rfl (by kernel_rfl) (by kernel_rfl) ?_ ?_ ?_ ?_; (focus (go_simp; done)); rotate_left; (focus (intro v hv; go_simp; rfl)); go_simp)
  (refine h_call 9 rfl (by kernel_rfl) ?_ 30 ?_ ?_ ?_; (focus (go_simp; done)); rotate_left; (focus (go_simp; rfl)))
  refine (G3.out v1 (B2.out.trans (J1.out.mono B2.out.size))).mono ?_
  rintro x v2 ⟨rfl, hb⟩
  have J2 := Lib.hid (J1.out.trans (hb.mono J1.out.size))
  clear hb
  refine ⟨_, rfl, J2.out, ?_⟩
  go_simp
  (refine h_call 11 rfl (by kernel_rfl) ?_ 37 ?_ ?_ ?_; (focus (go_simp; done)); rotate_left; (focus (go_simp; rfl)))
  refine (X3.out v2 (B2.out.trans (J2.out.mono B2.out.size))).mono ?_
  rintro x v3 ⟨rfl, hb⟩
  have J3 := Lib.hid (J2.out.trans (hb.mono J2.out.size))
  clear hb
  refine ⟨_, rfl, J3.out, ?_⟩
  go_simp
  (refine h_read 12 rfl (by kernel_rfl) (by kernel_rfl) ?_ ?_ ?_ ?_; (focus (go_simp; done)); rotate_left; (focus (intro v hv; go_simp; rfl)); go_simp)
  (refine h_read 13 rfl (by kernel_rfl) (by kernel_rfl) (h_free rfl) ?_ ?_ ?_; rotate_left; (focus (intro v hv; go_simp; rfl)); go_simp)
  (refine h_read 14 rfl (by kernel_rfl) (by kernel_rfl) (h_free rfl) ?_ ?_ ?_; rotate_left; (focus (intro v hv; go_simp; rfl)); go_simp)
  (refine h_read 15 rfl (by kernel_rfl) (by kernel_rfl) ?_ ?_ ?_ ?_; (focus (go_simp; done)); rotate_left; (focus (intro v hv; go_simp; rfl)); go_simp)
  (refine h_read 17 rfl (by kernel_rfl) (by kernel_rfl) ?_ ?_ ?_ ?_; (focus (go_simp; done)); rotate_left; (focus (intro v hv; go_simp; rfl)); go_simp)
  (refine h_call 16 rfl (by kernel_rfl) ?_ 31 ?_ ?_ ?_; (focus (go_simp; done)); rotate_left; (focus (go_simp; rfl)))
  refine (G4.out v3 (B2.out.trans (J3.out.mono B2.out.size))).mono ?_
  rintro x v4 ⟨rfl, hb⟩
  have J4 := Lib.hid (J3.out.trans (hb.mono J3.out.size))
  clear hb
  refine ⟨_, rfl, J4.out, ?_⟩
  go_simp
  (refine h_call 18 rfl (by kernel_rfl) ?_ 38 ?_ ?_ ?_; (focus (go_simp; done)); rotate_left; (focus (go_simp; rfl)))
  refine (X4.out v4 (B2.out.trans (J4.out.mono B2.out.size))).mono ?_
  rintro x v5 ⟨rfl, hb⟩
  have J5 := Lib.hid (J4.out.trans (hb.mono J4.out.size))
  clear hb
  refine ⟨_, rfl, J5.out, ?_⟩
  go_simp
  (refine h_read 19 rfl (by kernel_rfl) (by kernel_rfl) ?_ ?_ ?_ ?_; (focus (go_simp; done)); rotate_left; (focus (intro v hv; go_simp; rfl)); go_simp)
  (refine h_read 20 rfl (by kernel_rfl) (by kernel_rfl) (h_free rfl) ?_ ?_ ?_; rotate_left; (focus (intro v hv; go_simp; rfl)); go_simp)
  (refine h_read 21 rfl (by kernel_rfl) (by kernel_rfl) (h_free rfl) ?_ ?_ ?_; rotate_left; (focus (intro v hv; go_simp; rfl)); go_simp)
  (refine h_read 22 rfl (by kernel_rfl) (by kernel_rfl) ?_ ?_ ?_ ?_; (focus (go_simp; done)); rotate_left; (focus (intro v hv; go_simp; rfl)); go_simp)
  (refine h_read 23 rfl (by kernel_rfl) (by kernel_rfl) ?_ ?_ ?_ ?_; (focus (go_simp; done)); rotate_left; (focus (intro v hv; go_simp; rfl)); go_simp)
  (refine h_read 24 rfl (by kernel_rfl) (by kernel_rfl) ?_ ?_ ?_ ?_; (focus (go_simp; done)); rotate_left; (focus (intro v hv; go_simp; rfl)); go_simp)
  (refine h_read 25 rfl (by kernel_rfl) (by kernel_rfl) (h_free rfl) ?_ ?_ ?_; rotate_left; (focus (intro v hv; go_simp; rfl)); go_simp)
  (refine h_read 26 rfl (by kernel_rfl) (by kernel_rfl) (h_free rfl) ?_ ?_ ?_; rotate_left; (focus (intro v hv; go_simp; rfl)); go_simp)
  (refine h_read 27 rfl (by kernel_rfl) (by kernel_rfl) ?_ ?_ ?_ ?_; (focus (go_simp; done)); rotate_left; (focus (intro v hv; go_simp; rfl)); go_simp)
  (refine h_read 28 rfl (by kernel_rfl) (by kernel_rfl) ?_ ?_ ?_ ?_; (focus (go_simp; done)); rotate_left; (focus (intro v hv; go_simp; rfl)); go_simp)
  (refine h_read 29 rfl (by kernel_rfl) (by kernel_rfl) ?_ ?_ ?_ ?_; (focus (go_simp; done)); rotate_left; (focus (intro v hv; go_simp; rfl)); go_simp)
  (refine h_read 30 rfl (by kernel_rfl) (by kernel_rfl) (h_free rfl) ?_ ?_ ?_; rotate_left; (focus (intro v hv; go_simp; rfl)); go_simp)
  (refine h_read 31 rfl (by kernel_rfl) (by kernel_rfl) (h_free rfl) ?_ ?_ ?_; rotate_left; (focus (intro v hv; go_simp; rfl)); go_simp)
  (refine h_read 32 rfl (by kernel_rfl) (by kernel_rfl) ?_ ?_ ?_ ?_; (focus (go_simp; done)); rotate_left; (focus (intro v hv; go_simp; rfl)); go_simp)
  (refine h_read 34 rfl (by kernel_rfl) (by kernel_rfl) ?_ ?_ ?_ ?_; (focus (go_simp; done)); rotate_left; (focus (intro v hv; go_simp; rfl)); go_simp)
  (refine h_call 33 rfl (by kernel_rfl) ?_ 32 ?_ ?_ ?_; (focus (go_simp; done)); rotate_left; (focus (go_simp; rfl)))
  refine (G5.out v5 (B2.out.trans (J5.out.mono B2.out.size))).mono ?_
  rintro x v6 ⟨rfl, hb⟩
  have J6 := Lib.hid (J5.out.trans (hb.mono J5.out.size))
  clear hb
  refine ⟨_, rfl, J6.out, ?_⟩
  go_simp
  (refine h_call 35 rfl (by kernel_rfl) ?_ 39 ?_ ?_ ?_; (focus (go_simp; done)); rotate_left; (focus (go_simp; rfl)))
  refine (X5.out v6 (B2.out.trans (J6.out.mono B2.out.size))).mono ?_
  rintro x v7 ⟨rfl, hb⟩
  have J7 := Lib.hid (J6.out.trans (hb.mono J6.out.size))
  clear hb
  refine ⟨_, rfl, J7.out, ?_⟩
  go_simp
  (refine h_read 36 rfl (by kernel_rfl) (by kernel_rfl) ?_ ?_ ?_ ?_; (focus (go_simp; done)); rotate_left; (focus (intro v hv; go_simp; rfl)); go_simp)
  (refine h_read 37 rfl (by kernel_rfl) (by kernel_rfl) (h_free rfl) ?_ ?_ ?_; rotate_left; (focus (intro v hv; go_simp; rfl)); go_simp)
  (refine h_read 38 rfl (by kernel_rfl) (by kernel_rfl) (h_free rfl) ?_ ?_ ?_; rotate_left; (focus (intro v hv; go_simp; rfl)); go_simp)
  (refine h_read 39 rfl (by kernel_rfl) (by kernel_rfl) ?_ ?_ ?_ ?_; (focus (go_simp; done)); rotate_left; (focus (intro v hv; go_simp; rfl)); go_simp)
  (refine h_read 40 rfl (by kernel_rfl) (by kernel_rfl) ?_ ?_ ?_ ?_; (focus (go_simp; done)); rotate_left; (focus (intro v hv; go_simp; rfl)); go_simp)
  (refine h_read 42 rfl (by kernel_rfl) (by kernel_rfl) ?_ ?_ ?_ ?_; (focus (go_simp; done)); rotate_left; (focus (intro v hv; go_simp; rfl)); go_simp)
  (refine h_read 43 rfl (by kernel_rfl) (by kernel_rfl) ?_ ?_ ?_ ?_; (focus (go_simp; done)); rotate_left; (focus (intro v hv; go_simp; rfl)); go_simp)
  (refine h_call 41 rfl (by kernel_rfl) ?_ 35 ?_ ?_ ?_; (focus (go_simp; done)); rotate_left; (focus (go_simp; rfl)))
  refine (G6.out v7 (B2.out.trans (J7.out.mono B2.out.size))).mono ?_
  rintro x v8 ⟨rfl, hb⟩
  have J8 := Lib.hid (J7.out.trans (hb.mono J7.out.size))
  clear hb
  refine ⟨_, rfl, J8.out, ?_⟩
  go_simp
  (refine h_call 44 rfl (by kernel_rfl) ?_ 40 ?_ ?_ ?_; (focus (go_simp; done)); rotate_left; (focus (go_simp; rfl)))
  refine (X6.out v8 (B2.out.trans (J8.out.mono B2.out.size))).mono ?_
  rintro x v9 ⟨rfl, hb⟩
  have J9 := Lib.hid (J8.out.trans (hb.mono J8.out.size))
  clear hb
  refine ⟨_, rfl, J9.out, ?_⟩
  go_simp
  (refine h_read 45 rfl (by kernel_rfl) (by kernel_rfl) ?_ ?_ ?_ ?_; (focus (go_simp; done)); rotate_left; (focus (intro v hv; go_simp; rfl)); go_simp)
  (refine h_read 46 rfl (by kernel_rfl) (by kernel_rfl) (h_free rfl) ?_ ?_ ?_; rotate_left; (focus (intro v hv; go_simp; rfl)); go_simp)
  (refine h_read 47 rfl (by kernel_rfl) (by kernel_rfl) (h_free rfl) ?_ ?_ ?_; rotate_left; (focus (intro v hv; go_simp; rfl)); go_simp)
  (refine h_read 48 rfl (by kernel_rfl) (by kernel_rfl) ?_ ?_ ?_ ?_; (focus (go_simp; done)); rotate_left; (focus (intro v hv; go_simp; rfl)); go_simp)
  (refine h_read 49 rfl (by kernel_rfl) (by kernel_rfl) ?_ ?_ ?_ ?_; (focus (go_simp; done)); rotate_left; (focus (intro v hv; go_simp; rfl)); go_simp)
  (refine h_read 50 rfl (by kernel_rfl) (by kernel_rfl) ?_ ?_ ?_ ?_; (focus (go_simp; done)); rotate_left; (focus (intro v hv; go_simp; rfl)); go_simp)
  (refine h_read 51 rfl (by kernel_rfl) (by kernel_rfl) ?_ ?_ ?_ ?_; (focus (go_simp; done)); rotate_left; (focus (intro v hv; go_simp; rfl)); go_simp)
  (refine h_read 52 rfl (by kernel_rfl) (by kernel_rfl) ?_ ?_ ?_ ?_; (focus (go_simp; done)); rotate_left; (focus (intro v hv; obtain ⟨c0, c1, c2, c3⟩ := (HX.out v (B2.out.trans (hv.mono B2.out.size))).row.q4; go_simp; rfl)); go_simp)
  (refine h_read 53 rfl (by kernel_rfl) (by kernel_rfl) ?_ ?_ ?_ ?_; (focus (go_simp; done)); rotate_left; (focus (intro v hv; go_simp; rfl)); go_simp)
  (refine h_read 55 rfl (by kernel_rfl) (by kernel_rfl) ?_ ?_ ?_ ?_; (focus (go_simp; done)); rotate_left; (focus (intro v hv; go_simp; rfl)); go_simp)
  (refine h_read 56 rfl (by kernel_rfl) (by kernel_rfl) ?_ ?_ ?_ ?_; (focus (go_simp; done)); rotate_left; (focus (intro v hv; go_simp; rfl)); go_simp)
  (refine h_read 57 rfl (by kernel_rfl) (by kernel_rfl) ?_ ?_ ?_ ?_; (focus (go_simp; done)); rotate_left; (focus (intro v hv; go_simp; rfl)); go_simp)
  (refine h_read 58 rfl (by kernel_rfl) (by kernel_rfl) ?_ ?_ ?_ ?_; (focus (go_simp; done)); rotate_left; (focus (intro v hv; obtain ⟨c0, c1, c2, c3⟩ := (HX.out v (B2.out.trans (hv.mono B2.out.size))).row.q4; go_simp; rfl)); go_simp)
  (refine h_call 54 rfl (by kernel_rfl) ?_ 22 ?_ ?_ ?_; (focus (go_simp; done)); rotate_left; (focus (go_simp; rfl)))
  refine (G7.out v9 (B2.out.trans (J9.out.mono B2.out.size))).mono ?_
  rintro x v20 ⟨fa, fn, fc, R, rfl, hfre, hRe, hb⟩
  have FR := Lib.hid hfre
  have RE := Lib.hid hRe
  have J20 := Lib.hid (J9.out.trans (hb.mono J9.out.size))
  clear hfre hRe hb
  refine ⟨_, rfl, J20.out, ?_⟩
  go_simp
  (refine h_call 59 rfl (by kernel_rfl) ?_ 23 ?_ ?_ ?_; (focus (go_simp; done)); rotate_left; (focus (go_simp; rfl)))
  have HXv := Lib.hid (HX.out v20 (B2.out.trans (J20.out.mono B2.out.size)))
  refine (lequal fa xa fn fc xn xc R XLs v20 FR.out.ents HXv.out.es (by have h1 := FR.out.len; have h2 := HXN.out; have h3 := HXv.out.len; have h4 : R.length = XLs.length := (by rw [← List.length_map (f := pe), RE.out, ← HXL.out, List.length_map]); omega)).mono ?_
  rw [RE.out, HXL.out, decide_eq_true rfl]
  rintro x v21 ⟨rfl, hb⟩
  have Jz := Lib.hid (J20.out.trans (hb.mono J20.out.size))
  clear hb
  refine ⟨_, rfl, Jz.out, ?_⟩
  go_simp
  (refine h_read 60 rfl (by kernel_rfl) (by kernel_rfl) (h_free rfl) ?_ ?_ ?_; rotate_left; (focus (intro v hv; go_simp; rfl)); go_simp)
  (refine h_read 61 rfl (by kernel_rfl) (by kernel_rfl) (h_free rfl) ?_ ?_ ?_; rotate_left; (focus (intro v hv; go_simp; rfl)); go_simp)
  refine h_done (by kernel_rfl) ?_
  go_wp2_with fail
  go_ret
  exact ⟨one (vbool (by simp)), B2.out.trans (Jz.out.mono B2.out.size)⟩
end Go.Proofs.Ytnlbdgaleibgcaa.W

namespace Go.Proofs.Ytnlbdgaleibgcaa.W
open Go Go.ChangeShapes Go.WideShapes Go.ChangeAt Go.RowKit

/-- a call of a log -/
structure Dd13 where
  op : Int
  n : Int
  t : Int
  c : Int
  e : En
def Dd13.cells (d : Dd13) : List Value := [.int .i64 d.op, .int .i64 d.n, .int .i64 d.t, .int .i64 d.c, .int .i64 d.e.ix, .int .i64 d.e.tm, .int .i64 d.e.kd, .slice d.e.a d.e.n d.e.c]
structure D13F (w : World) (d : Dd13) (l : List UInt8) : Prop where
  n : (Lit.int .i64 d.n).wf = true
  t : (Lit.int .i64 d.t).wf = true
  e : EnF w d.e l
def Dz13 : Dd13 × List UInt8 := (⟨0, 0, 0, 0, En.zero⟩, [])
instance : Inhabited (Dd13 × List UInt8) := ⟨Dz13⟩
theorem d13_zero : (Try.prog.info? 36).map (·.zero) = some (some (.agg Dz13.1.cells.toArray)) := by kernel_rfl
theorem d13_size : (Try.prog.info? 36).map (·.size) = some 8 := by kernel_rfl
theorem d13_one (d : Dd13) : ∀ v ∈ d.cells, v.oneCell' = true := by
  intro v hv
  simp [Dd13.cells] at hv
  rcases hv with rfl | rfl | rfl | rfl | rfl | rfl | rfl | rfl <;> rfl
theorem NB_d13 (d : Dd13) : NB d.cells := by
  intro x hx
  simp [Dd13.cells, B] at hx
theorem Row.q8 {w : World} {g : Nat} {t : TypeId} {a0 a1 a2 a3 a4 a5 a6 a7 : Value} (h : Row w g t [a0, a1, a2, a3, a4, a5, a6, a7]) :
    w.cell? ⟨g, 0, none⟩ = some a0 ∧ w.cell? ⟨g, 1, none⟩ = some a1 ∧ w.cell? ⟨g, 2, none⟩ = some a2 ∧ w.cell? ⟨g, 3, none⟩ = some a3 ∧ w.cell? ⟨g, 4, none⟩ = some a4 ∧ w.cell? ⟨g, 5, none⟩ = some a5 ∧ w.cell? ⟨g, 6, none⟩ = some a6 ∧ w.cell? ⟨g, 7, none⟩ = some a7 := by
  refine ⟨?_, ?_, ?_, ?_, ?_, ?_, ?_, ?_⟩ <;> (rw [h.cellV]; rfl)
structure Ds13 (w : World) (a : Option Addr) (len cap : Nat) (L : List (Dd13 × List UInt8)) : Prop where
  hlen : L.length = len
  hmax : len ≤ 9223372036854775807
  hfit : ∀ p ∈ L, D13F w p.1 p.2
  hcells : len = 0 ∨ ∃ b off, a = some ⟨b, off, none⟩ ∧ b < w.heap.size ∧ ∀ i, i < len → ∀ j v, (L.getD i Dz13).1.cells[j]? = some v → w.cell? ⟨b, off + i * 8 + j, none⟩ = some v
theorem Ds13.at {w wr : World} {a : Option Addr} {n c : Nat} {L : List (Dd13 × List UInt8)} (h : Ds13 w a n c L) (hb : Below w.heap.size w wr) (k : Nat) (hk : k < n) :
    ∃ x off, a = some ⟨x, off, none⟩ ∧ (∀ j v, (L.getD k Dz13).1.cells[j]? = some v → wr.cell? ⟨x, off + k * 8 + j, none⟩ = some v) ∧ D13F w (L.getD k Dz13).1 (L.getD k Dz13).2 := by
  rcases h.hcells with h0 | ⟨x, off, rfl, hx, hcell⟩
  · omega
  have hk2 : k < L.length := by rw [h.hlen]; exact hk
  refine ⟨x, off, rfl, fun j v hj => ?_, ?_⟩
  · rw [hb.cell (p := ⟨x, off + k * 8 + j, none⟩) hx]; exact hcell k hk j v hj
  · have : L.getD k Dz13 = L[k] := by simp [List.getD_eq_getElem?_getD, hk2]
    rw [this]
    exact h.hfit _ (List.getElem_mem hk2)
section
variable {H : Type} {enc : TypeId × Value → H} {w : World} {base : Nat} {held : Bool}
theorem int_cells13 {fuel : Nat} {cs : List Value} {x : DataW H × List MemPlace} (h : DataW.trod enc Try.prog w base (fun _ => true) held fuel 3 cs = some x) : ∃ n, cs = [.int .i64 n] ∧ (Lit.int .i64 n).wf = true := by
  obtain ⟨n0, e0, -, w0⟩ := DataW.trod_int Try.underlying3 h
  exact ⟨n0, e0, w0⟩
set_option maxRecDepth 100000 in
theorem d13_cells {fuel : Nat} {cs : List Value} {x : DataW H × List MemPlace} (h : DataW.trod enc Try.prog w base (fun _ => true) held fuel 36 cs = some x) : ∃ d l, cs = Dd13.cells d ∧ D13F w d l := by
  obtain ⟨xs, n, hn, rfl, hl, hlen, hf⟩ := DataW.trod_struct Try.underlying36 h
  have hcl : Try.prog.cellsOf 36 = 8 := by kernel_rfl
  rw [hcl] at hl
  have f0 := hf 0 _ rfl
  have f1 := hf 1 _ rfl
  have f2 := hf 2 _ rfl
  have f3 := hf 3 _ rfl
  have f4 := hf 4 _ rfl
  match cs, hl with
  | [v0, v1, v2, v3, v4, v5, v6, v7], _ =>
    have c1 : Try.prog.cellsOf 3 = 1 := by kernel_rfl
    have c3 : Try.prog.cellsOf 34 = 4 := by kernel_rfl
    match xs, hlen with
    | [x0, x1, x2, x3, x4], _ =>
    simp [c1] at f0 f1 f2 f3
    simp [c1, c3] at f4
    obtain ⟨n0, e0, w0⟩ := int_cells13 f0
    obtain ⟨n1, e1, w1⟩ := int_cells13 f1
    obtain ⟨n2, e2, w2⟩ := int_cells13 f2
    obtain ⟨n3, e3, w3⟩ := int_cells13 f3
    obtain ⟨e, l, e4, he⟩ := en_cells f4
    simp [En.cells] at e0 e1 e2 e3 e4
    obtain ⟨q0, q1, q2, q3⟩ := e4
    subst e0 e1 e2 e3 q0 q1 q2 q3
    exact ⟨⟨n0, n1, n2, n3, e⟩, l, rfl, w1, w2, he⟩
set_option maxRecDepth 100000 in
theorem ds13_cells {fuel : Nat} {cs : List Value} {d : DataW H × List MemPlace} (h : DataW.trod enc Try.prog w base (fun _ => true) held fuel 23 cs = some d) : ∃ a n c L, cs = [.slice a n c] ∧ Ds13 w a n c L := by
  rcases Go.Deep.open_slice Try.underlying23 h with ⟨hcs, -⟩ | ⟨x, len, cap, m, n, D, P0, hcs, -, hl, hm, hmm, -, hx⟩
  · exact ⟨none, 0, 0, [], hcs, rfl, by omega, by simp, .inl rfl⟩
  · refine ⟨some x, len, cap, ?_⟩
    have hml : len ≤ m := by rw [hmm]; split <;> omega
    have hcl : Try.prog.cellsOf 36 = 8 := by kernel_rfl
    have each : ∀ i, i < len → ∃ p : Dd13 × List UInt8, D13F w p.1 p.2 ∧ ∀ j v, p.1.cells[j]? = some v → w.cell? ((x.add (i * 8)).add j) = some v := by
      intro i hi
      obtain ⟨cs', h1, h2⟩ := hx i (by omega)
      obtain ⟨r, l, rfl, hfit⟩ := d13_cells h2
      rw [hcl] at h1
      obtain ⟨_, hlen, hcell⟩ := World.cells?_some h1
      refine ⟨(r, l), hfit, fun j v hj => ?_⟩
      have hj3 : j < 8 := by have := (List.getElem?_eq_some_iff.1 hj).1; simpa [Dd13.cells] using this
      rw [hcell j hj3, hj]
    obtain ⟨q, hq⟩ := Go.Deep.choose_lt each
    refine ⟨(List.range len).map q, hcs, by simp, by unfold maxLen at hm; omega, ?_, ?_⟩
    · intro c hc
      obtain ⟨i, hi, rfl⟩ := List.mem_map.1 hc
      exact (hq i (by simpa using hi)).1
    · by_cases h0 : len = 0
      · exact .inl h0
      · right
        obtain ⟨b, off, spot⟩ := x
        have hspot : spot = none := by simpa [Addr.add] using World.cell?_spot ((hq 0 (by omega)).2 0 _ rfl)
        subst hspot
        refine ⟨b, off, rfl, ?_, fun i hi j v hj => ?_⟩
        · exact World.block_lt_of_cell? w _ (by have := (hq 0 (by omega)).2 0 _ rfl; rw [Go.WideShapes.add_plain, Go.WideShapes.add_plain] at this; exact this)
        · have hj' : (q i).1.cells[j]? = some v := by
            rw [← hj]; congr 2; simp [hi]
          have h1 := (hq i hi).2 j v hj'
          rw [Go.WideShapes.add_plain, Go.WideShapes.add_plain] at h1
          exact h1
theorem ds13_open {a : Option Addr} {len cap : Nat} {d : DataW H} {pl : List MemPlace} (h : DataW.Trod enc Try.prog w base (fun _ => true) held 23 (.slice a len cap) d pl) : ∃ L, Ds13 w a len cap L := by
  obtain ⟨fuel, hf⟩ := h
  obtain ⟨a', n', c', L, hc, hL⟩ := ds13_cells hf
  simp [Value.cells] at hc
  obtain ⟨rfl, rfl, rfl⟩ := hc
  exact ⟨L, hL⟩
end
theorem ynew (b t c : Int) (a : Option Addr) (n cp : Nat) (L0 : List (En × List UInt8)) (w : World) (h : Ents w a n cp L0) (hb : 0 ≤ b ∧ b ≤ 4294967296) (hn : n ≤ 100) :
    Calls Try.prog 11 #[.int .i64 b, .int .i64 t, .int .i64 c, .slice a n cp] w fun x w' => ∃ p F, x = .returned (.pointer (some ⟨p, 0, none⟩)) ∧ XL ((⟨b, t, c, []⟩ : LS).apps (L0.map pe)) w' p F ∧ (∀ k, F k → w.heap.size ≤ k) ∧ Below w.heap.size w w' := by
  refine (xnew b t c a n cp L0 w h hb hn).mono ?_
  rintro x w' ⟨p, F, ra, rn, rc, L, rfl, hL, heq, ho, hle, hF, hbw⟩
  have heq2 : lsOf b t c L = (⟨b, t, c, []⟩ : LS).apps (L0.map pe) := heq
  rw [← heq2]
  exact ⟨p, F, rfl, XL.mk' hL rfl ho, hF, hbw⟩
theorem pr_new {q1 q2 : LS} {w1 w2 : World} {p p' : Nat} {F G : Nat → Prop} {base : Nat} (h : GL q1 w1 p F) (hF : ∀ k, F k → base ≤ k) (hx : XL q2 w2 p' G) (hG : ∀ k, G k → w1.heap.size ≤ k) (hb : Below w1.heap.size w1 w2) (hw : base ≤ w1.heap.size) : PR q1 q2 w2 p p' F G base :=
  ⟨h.mono hb, hx, fun k hf hg => absurd (h.lt k hf) (Nat.not_lt.2 (hG k hg)), hF, fun k hk => Nat.le_trans hw (hG k hk), Nat.le_trans hw hb.size⟩
/-- how the logs grow -/
theorem app_last (q : LS) (x : Pe) : (q.app x).1.last ≤ q.last + 1 := by
  unfold LS.last
  rw [(LS.app_b q x).1]
  have := LS.app_len q x
  omega
theorem cut_grow (q : LS) (i : Int) : (q.cut i).1.last ≤ q.last ∧ (q.cut i).1.l.length ≤ q.l.length := by
  unfold LS.cut LS.last
  split
  · exact ⟨Int.le_refl _, Nat.le_refl _⟩
  · have := List.length_filter_le (fun x : Pe => !decide (i ≤ x.1)) q.l
    dsimp only
    exact ⟨by omega, this⟩
theorem compact_grow {q : LS} (h : LOK q) (i : Int) (hl : q.last ≤ 4294967296) : (q.compact i).1.last ≤ q.last ∧ (q.compact i).1.l.length ≤ q.l.length := by
  constructor
  · rcases h.compact (i := i) hl with h1 | h1
    · rw [h1.2]; exact Int.le_refl _
    · rw [h1]; exact Int.le_refl _
  · unfold LS.compact
    split
    · exact List.length_filter_le _ _
    · exact Nat.le_refl _
end Go.Proofs.Ytnlbdgaleibgcaa.W
