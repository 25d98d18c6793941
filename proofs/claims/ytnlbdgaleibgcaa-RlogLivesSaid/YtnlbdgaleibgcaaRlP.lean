/- LAYER 13 (rlog): what compacting leaves, plain; the program's log, closed, by its plain one. LAYER 13 (rlog): the law's equal, few, at. -/
import Derived.Test.YtnlbdgaleibgcaaRlK
import Derived.Test.YtnlbdgaleibgcaaRlM
import Derived.Test.YtnlbdgaleibgcaaRcEq
import Derived.Test.YtnlbdgaleibgcaaByt
set_option linter.unusedSimpArgs false
set_option linter.unusedVariables false
namespace Go.Proofs.Ytnlbdgaleibgcaa.W
open Go Go.ChangeShapes Go.WideShapes Go.ChangeAt Go.RowKit

theorem rise_get : ∀ (l : List Pe) (b : Int) (j : Nat) (hj : j < l.length), rise b l → (l[j]).1 = b + 1 + j
  | x :: l, b, 0, _, h => by have := h.1; simp; omega
  | x :: l, b, j + 1, hj, h => by
    have := rise_get l (b + 1) j (by simpa using hj) h.2
    rw [List.getElem_cons_succ, this]; omega
theorem confL_cat (i : Int) : ∀ (A B : List Pe) (c : Int), confL i c (A ++ B) = confL i (confL i c A) B
  | [], _, _ => rfl
  | x :: A, B, c => confL_cat i A B _
theorem confL_high (i : Int) : ∀ (B : List Pe) (c : Int), (∀ x ∈ B, ¬ x.1 ≤ i) → confL i c B = c
  | [], _, _ => rfl
  | x :: B, c, h => by
    unfold confL
    rw [if_neg (fun k => h x List.mem_cons_self k.1)]
    exact confL_high i B c (fun y hy => h y (List.mem_cons_of_mem _ hy))
theorem confL_eq (i j : Int) : ∀ (A : List Pe) (c : Int), (∀ x ∈ A, x.1 ≤ i ∧ x.1 ≤ j) → confL i c A = confL j c A
  | [], _, _ => rfl
  | x :: A, c, h => by
    have h1 := h x List.mem_cons_self
    unfold confL
    simp only [h1.1, h1.2, true_and]
    exact confL_eq i j A _ (fun y hy => h y (List.mem_cons_of_mem _ hy))
/-- a place that a log can be compacted to -/
theorem termE_in {q : LS} {i : Int} (h1 : q.b ≤ i) (h2 : i ≤ q.last) : q.termE i = 0 := by
  unfold LS.termE
  split
  · rfl
  · rename_i h
    have : q.has i = true := by unfold LS.has; simp; omega
    rw [if_pos this]
theorem compact_is {q : LS} (h : LOK q) {i : Int} (h1 : q.b ≤ i) (h2 : i ≤ q.last) : q.compact i = (⟨i, q.term i, q.confAt i, q.l.drop (i - q.b).toNat⟩, 0) := by
  unfold LS.compact
  rw [if_pos (termE_in h1 h2)]
  have h3 := (rise_drop q.l q.b i h.r h1 (by unfold LS.last at h2; exact h2)).2
  rw [h3]
theorem compact_all {q : LS} (h : LOK q) {i : Int} (h1 : q.b ≤ i) (h2 : i ≤ q.last) :
    (q.compact i).2 = 0 ∧ (q.compact i).1.b = i ∧ (q.compact i).1.last = q.last ∧ (q.compact i).1.term q.last = q.term q.last ∧ (q.compact i).1.confAt q.last = q.confAt q.last ∧ ∀ m, (q.compact i).1.from (i + 1) m = q.from (i + 1) m := by
  have hl : q.last = q.b + q.l.length := rfl
  have hdl : (q.l.drop (i - q.b).toNat).length = q.l.length - (i - q.b).toNat := List.length_drop
  have hlast : (q.compact i).1.last = q.last := by
    rw [compact_is h h1 h2]; unfold LS.last; dsimp only; rw [hdl]; omega
  refine ⟨by rw [compact_is h h1 h2], by rw [compact_is h h1 h2], hlast, ?_, ?_, ?_⟩
  · by_cases he : q.last = i
    · have : (q.compact i).1.term q.last = q.term i := by
        rw [compact_is h h1 h2, he]; unfold LS.term; rw [if_pos rfl]
      rw [this, he]
    · have hh1 : q.has q.last = true := by unfold LS.has; simp; omega
      have hh2 : (q.compact i).1.has q.last = true := by
        unfold LS.has; rw [hlast, compact_is h h1 h2]; simp; omega
      have hne1 : ¬ q.last = q.b := by omega
      have hne2 : ¬ q.last = (q.compact i).1.b := by rw [compact_is h h1 h2]; exact he
      have hat : (q.compact i).1.at q.last = q.at q.last := by
        unfold LS.at
        rw [compact_is h h1 h2]
        dsimp only
        simp only [List.getD_eq_getElem?_getD, List.getElem?_drop]
        congr 2
        omega
      unfold LS.term
      rw [if_neg hne1, if_neg hne2, hh1, hh2, if_pos rfl, if_pos rfl]
      rw [hat]
  · rw [compact_is h h1 h2]
    unfold LS.confAt
    dsimp only
    have hsp : q.l = q.l.take (i - q.b).toNat ++ q.l.drop (i - q.b).toNat := (List.take_append_drop _ _).symm
    have hA : ∀ x ∈ q.l.take (i - q.b).toNat, x.1 ≤ q.last ∧ x.1 ≤ i := by
      intro x hx
      obtain ⟨j, hj, rfl⟩ := List.getElem_of_mem hx
      rw [List.length_take] at hj
      rw [List.getElem_take, rise_get q.l q.b j (by omega) h.r]
      omega
    have hB : ∀ x ∈ q.l.drop (i - q.b).toNat, ¬ x.1 ≤ i := by
      intro x hx
      obtain ⟨j, hj, rfl⟩ := List.getElem_of_mem hx
      rw [hdl] at hj
      rw [List.getElem_drop, rise_get q.l q.b _ (by omega) h.r]
      omega
    have e1 : confL i q.c q.l = confL i q.c (q.l.take (i - q.b).toNat) := by
      conv => lhs; rw [hsp]
      rw [confL_cat, confL_high i _ _ hB]
    have e2 : confL q.last q.c q.l = confL q.last (confL i q.c (q.l.take (i - q.b).toNat)) (q.l.drop (i - q.b).toNat) := by
      conv => lhs; rw [hsp]
      rw [confL_cat, confL_eq q.last i _ _ hA]
    rw [e1, e2]
  · intro m
    have hb2 : (q.compact i).1.b = i := by rw [compact_is h h1 h2]
    have hh : (q.compact i).1.has (i + 1) = q.has (i + 1) := by
      unfold LS.has
      rw [hlast, hb2, decide_eq_true (show i < i + 1 by omega), decide_eq_true (show q.b < i + 1 by omega)]
    unfold LS.from
    rw [hh, hb2]
    have e1 : (i + 1 - i - 1).toNat = 0 := by omega
    have e2 : (i + 1 - q.b - 1).toNat = (i - q.b).toNat := by omega
    rw [e1, e2, compact_is h h1 h2]
    rfl
theorem from_rise {q : LS} (h : LOK q) {i : Int} (h1 : q.b ≤ i) (m : Int) {j : Nat} (hj : j < (q.from (i + 1) m).length) : ((q.from (i + 1) m)[j]).1 = i + 1 + j := by
  have key : ∀ l, l = q.from (i + 1) m → ∀ hj : j < l.length, (l[j]).1 = i + 1 + j := by
    intro l hl hj
    unfold LS.from at hl
    split at hl
    · subst hl
      have e2 : (i + 1 - q.b - 1).toNat = (i - q.b).toNat := by omega
      simp only [List.length_take, List.length_drop] at hj
      rw [List.getElem_take, List.getElem_drop, rise_get q.l q.b _ (by omega) h.r]
      omega
    · subst hl; cases hj
  exact key _ rfl hj
theorem from_len {q : LS} (h : LOK q) (i m : Int) : (q.from i m).length ≤ 200 := by
  unfold LS.from
  split
  · rw [List.length_take, List.length_drop]; have := h.n; omega
  · exact Nat.zero_le _
/-- the program's log, by its plain one -/
structure GL (q : LS) (w : World) (p : Nat) (F : Nat → Prop) : Prop where
  ok : LOK q
  ex : ∃ ea en ec L, LG w p F q.b q.t q.c ea en ec L ∧ lsOf q.b q.t q.c L = q
  lt : ∀ k, F k → k < w.heap.size
theorem GL.mk' {w : World} {p : Nat} {F : Nat → Prop} {b t c : Int} {ea : Option Addr} {en ec : Nat} {L : List (En × List UInt8)} {q : LS} (h : LG w p F b t c ea en ec L) (hq : lsOf b t c L = q) (ho : LOK q) : GL q w p F := by
  subst hq
  exact ⟨ho, ⟨ea, en, ec, L, h, rfl⟩, h.lt⟩
theorem GL.mono {q : LS} {w w' : World} {p : Nat} {F : Nat → Prop} (h : GL q w p F) (hb : Below w.heap.size w w') : GL q w' p F := by
  obtain ⟨ea, en, ec, L, hL, hq⟩ := h.ex
  exact ⟨h.ok, ⟨ea, en, ec, L, hL.mono hb, hq⟩, fun k hk => Nat.lt_of_lt_of_le (h.lt k hk) hb.size⟩
theorem GL.ft {q : LS} {w w' : World} {p : Nat} {F G : Nat → Prop} (h : GL q w p F) (k : Ft G w w') (hd : ∀ x, F x → ¬ G x) : GL q w' p F := by
  obtain ⟨ea, en, ec, L, hL, hq⟩ := h.ex
  exact ⟨h.ok, ⟨ea, en, ec, L, hL.ft k hd, hq⟩, fun x hx => Nat.lt_of_lt_of_le (h.lt x hx) k.size⟩
theorem Fre.ft {w w' : World} {base : Nat} {a : Option Addr} {n c : Nat} {L : List (En × List UInt8)} {G : Nat → Prop} (h : Fre w base a n c L) (k : Ft G w w') (hd : ∀ x, G x → x < base) : Fre w' base a n c L :=
  ⟨h.es.ft k (fun x off e hg => absurd (h.ne x off e) (Nat.not_le.2 (hd x hg))), fun x hx => ⟨(h.fit x hx).ix, (h.fit x hx).tm, (h.fit x hx).kd, (h.fit x hx).rd.ft k (fun hn b off e hg => absurd (h.fa x hx hn b off e) (Nat.not_le.2 (hd b hg)))⟩, h.ne, h.fa⟩
section
variable {q : LS} {w : World} {p : Nat} {F : Nat → Prop}
theorem qbase (h : GL q w p F) : Calls Try.prog 33 #[.pointer (some ⟨p, 0, none⟩)] w fun x w' => x = .returned (.int .i64 q.b) ∧ Below w.heap.size w w' := by
  obtain ⟨ea, en, ec, L, hL, hq⟩ := h.ex
  refine (gbase p F q.b q.t q.c ea en ec L w hL (by rw [hq]; exact h.ok)).mono ?_
  rintro x w' ⟨rfl, rfl⟩; exact ⟨rfl, Below.refl _ _⟩
theorem qlast (h : GL q w p F) : Calls Try.prog 30 #[.pointer (some ⟨p, 0, none⟩)] w fun x w' => x = .returned (.int .i64 q.last) ∧ Below w.heap.size w w' := by
  obtain ⟨ea, en, ec, L, hL, hq⟩ := h.ex
  have := glast p F q.b q.t q.c ea en ec L w hL (by rw [hq]; exact h.ok)
  rwa [hq] at this
theorem qlastT (h : GL q w p F) : Calls Try.prog 31 #[.pointer (some ⟨p, 0, none⟩)] w fun x w' => x = .returned (.int .i64 (q.term q.last)) ∧ Below w.heap.size w w' := by
  obtain ⟨ea, en, ec, L, hL, hq⟩ := h.ex
  have := glastT p F q.b q.t q.c ea en ec L w hL (by rw [hq]; exact h.ok)
  rwa [hq] at this
theorem qterm (h : GL q w p F) (i : Int) : Calls Try.prog 34 #[.pointer (some ⟨p, 0, none⟩), .int .i64 i] w fun x w' => x = .returned (.tuple #[.int .i64 (q.term i), .int .i64 (q.termE i)]) ∧ Below w.heap.size w w' := by
  obtain ⟨ea, en, ec, L, hL, hq⟩ := h.ex
  have := gterm p F q.b q.t q.c ea en ec L i w hL (by rw [hq]; exact h.ok)
  rwa [hq] at this
theorem qconf (h : GL q w p F) : Calls Try.prog 32 #[.pointer (some ⟨p, 0, none⟩)] w fun x w' => x = .returned (.int .i64 (q.confAt q.last)) ∧ Below w.heap.size w w' := by
  obtain ⟨ea, en, ec, L, hL, hq⟩ := h.ex
  have := gconf p F q.b q.t q.c ea en ec L w hL (by rw [hq]; exact h.ok)
  rwa [hq] at this
theorem qconfAt (h : GL q w p F) (i : Int) : Calls Try.prog 35 #[.pointer (some ⟨p, 0, none⟩), .int .i64 i] w fun x w' => x = .returned (.int .i64 (q.confAt i)) ∧ Below w.heap.size w w' := by
  obtain ⟨ea, en, ec, L, hL, hq⟩ := h.ex
  have := gconfAt p F q.b q.t q.c ea en ec L i w hL (by rw [hq]; exact h.ok)
  rwa [hq] at this
theorem qfrom (h : GL q w p F) (i m : Int) (wm : (Lit.int .i64 m).wf = true) : Calls Try.prog 22 #[.pointer (some ⟨p, 0, none⟩), .int .i64 i, .int .i64 m] w fun x w' => ∃ a n cp R, x = .returned (.slice a n cp) ∧ Fre w' w.heap.size a n cp R ∧ R.map pe = q.from i m ∧ Below w.heap.size w w' := by
  obtain ⟨ea, en, ec, L, hL, hq⟩ := h.ex
  have := gfrom p F q.b q.t q.c ea en ec L i m w hL (by rw [hq]; exact h.ok) wm
  rwa [hq] at this
theorem qcompact (h : GL q w p F) (i : Int) (hl : q.last ≤ 4294967296) : Calls Try.prog 18 #[.pointer (some ⟨p, 0, none⟩), .int .i64 i] w fun x w' => x = .returned (.int .i64 (q.compact i).2) ∧ GL (q.compact i).1 w' p F ∧ Ft F w w' := by
  obtain ⟨ea, en, ec, L, hL, hq⟩ := h.ex
  refine (gcompact p F q.b q.t q.c ea en ec L i w hL (by rw [hq]; exact h.ok)).mono ?_
  rintro x w' ⟨b', t', c', en', L', rfl, hL', heq, -, hft⟩
  rw [hq] at heq
  refine ⟨by rw [hq], GL.mk' hL' heq ?_, hft⟩
  rcases h.ok.compact (i := i) hl with h1 | h1
  · exact h1.1
  · rw [h1]; exact h.ok
theorem qcut (h : GL q w p F) (i : Int) : Calls Try.prog 16 #[.pointer (some ⟨p, 0, none⟩), .int .i64 i] w fun x w' => x = .returned (.int .i64 (q.cut i).2) ∧ GL (q.cut i).1 w' p F ∧ Ft F w w' := by
  obtain ⟨ea, en, ec, L, hL, hq⟩ := h.ex
  refine (gcut p F q.b q.t q.c ea en ec L i w hL (by rw [hq]; exact h.ok)).mono ?_
  rintro x w' ⟨en', L', rfl, hL', heq, hft⟩
  rw [hq] at heq
  exact ⟨by rw [hq], GL.mk' hL' heq h.ok.cut, hft⟩
theorem qappend (h : GL q w p F) (e : En) (l : List UInt8) (he : EnF w e l) (hn : q.l.length + 1 ≤ 200) : Calls Try.prog 14 #[.pointer (some ⟨p, 0, none⟩), .agg e.cells.toArray] w fun x w' => x = .returned (.int .i64 (q.app (pe (e, l))).2) ∧ GL (q.app (pe (e, l))).1 w' p (FG F w w') ∧ Ft F w w' := by
  obtain ⟨ea, en, ec, L, hL, hq⟩ := h.ex
  refine (gappend p F q.b q.t q.c ea en ec L e l w hL (by rw [hq]; exact h.ok) he).mono ?_
  rintro x w' ⟨ea', en', ec', L', rfl, hL', heq, hft⟩
  rw [hq] at heq
  exact ⟨by rw [hq], GL.mk' hL' heq (h.ok.app hn), hft⟩
theorem qreset (h : GL q w p F) (b t c : Int) (hb : 0 ≤ b ∧ b ≤ 4294967296) : Calls Try.prog 20 #[.pointer (some ⟨p, 0, none⟩), .int .i64 b, .int .i64 t, .int .i64 c] w fun x w' => (∃ v, x = .returned v) ∧ GL ⟨b, t, c, []⟩ w' p F ∧ Ft F w w' := by
  obtain ⟨ea, en, ec, L, hL, hq⟩ := h.ex
  refine (greset p F q.b q.t q.c ea en ec L b t c w hL (by rw [hq]; exact h.ok)).mono ?_
  rintro x w' ⟨hv, hL', hu⟩
  exact ⟨hv, GL.mk' hL' rfl ⟨trivial, hb, Nat.zero_le _, by simp⟩, Ft.of_upd hu hL.fp⟩
end
theorem qnew (b t c : Int) (a : Option Addr) (n cp : Nat) (L0 : List (En × List UInt8)) (w : World) (h : Ents w a n cp L0) (hb : 0 ≤ b ∧ b ≤ 4294967296) (hn : n ≤ 100) :
    Calls Try.prog 10 #[.int .i64 b, .int .i64 t, .int .i64 c, .slice a n cp] w fun x w' => ∃ p F, x = .returned (.pointer (some ⟨p, 0, none⟩)) ∧ GL ((⟨b, t, c, []⟩ : LS).apps (L0.map pe)) w' p F ∧ ((⟨b, t, c, []⟩ : LS).apps (L0.map pe)).l.length ≤ n ∧ ((⟨b, t, c, []⟩ : LS).apps (L0.map pe)).b = b ∧ (∀ k, F k → w.heap.size ≤ k) ∧ Below w.heap.size w w' := by
  refine (gnew b t c a n cp L0 w h hb hn).mono ?_
  rintro x w' ⟨p, F, ea, en, ec, L, rfl, hL, heq, ho, hle, hF, hbw⟩
  have heq2 : lsOf b t c L = (⟨b, t, c, []⟩ : LS).apps (L0.map pe) := heq
  rw [← heq2]
  exact ⟨p, F, rfl, GL.mk' hL rfl ho, by show (L.map pe).length ≤ n; rw [List.length_map]; exact hle, rfl, hF, hbw⟩
end Go.Proofs.Ytnlbdgaleibgcaa.W

namespace Go.Proofs.Ytnlbdgaleibgcaa.W
open Go Go.ChangeShapes Go.WideShapes Go.ChangeAt Go.RowKit

set_option maxRecDepth 100000 in
set_option maxHeartbeats 4000000 in
theorem lclos13 (e f : En) (l m : List UInt8) (w : World) (he : Rd w e.a e.n e.c l) (hf : Rd w f.a f.n f.c m) : Calls Try.prog 52 #[.agg e.cells.toArray, .agg f.cells.toArray] w fun x w' => x = .returned (.bool (sameE e f l m)) ∧ Below w.heap.size w w' := by
  obtain ⟨ix, tm, kd, a, n, c⟩ := e
  obtain ⟨ix', tm', kd', a', n', c'⟩ := f
  obtain ⟨b0, h0⟩ : ∃ b, (ix == ix') = b := ⟨_, rfl⟩
  obtain ⟨b1, h1⟩ : ∃ b, (tm == tm') = b := ⟨_, rfl⟩
  obtain ⟨b2, h2⟩ : ∃ b, (kd == kd') = b := ⟨_, rfl⟩
  obtain ⟨b3, h3⟩ : ∃ b, decide (l = m) = b := ⟨_, rfl⟩
  have hx : sameE ⟨ix, tm, kd, a, n, c⟩ ⟨ix', tm', kd', a', n', c'⟩ l m = (b0 && (b1 && (b2 && b3))) := by unfold sameE; rw [h0, h1, h2, ← h3]
  dsimp only at he hf
  have HX := Lib.hid hx
  have HE := Lib.hid he
  have HF := Lib.hid hf
  have H3 := Lib.hid h3
  unfold En.cells
  dsimp only
  clear hx he hf h3
  rcases ch4 b0 b1 b2 b3 with rfl | ⟨rfl, rfl⟩ | ⟨rfl, rfl, rfl⟩ | ⟨rfl, rfl, rfl, rfl⟩ | ⟨rfl, rfl, rfl, rfl⟩
  all_goals
    go_enter Try.func52, Try.ntmps52
    go_wp2_with (first
      | (with_reducible refine box_row (o := ⟨some 2, _, _, _, _, _⟩) rfl _ _ rfl [.int .i64 ix, .int .i64 tm, .int .i64 kd, .slice a n c] rfl ?_; intro w1 hr1 hb1 hz1; have HR1 := Lib.hid hr1; have B1 := Lib.hid hb1; clear hr1 hb1 hz1)
      | (with_reducible refine box_row (o := ⟨some 3, _, _, _, _, _⟩) rfl _ _ rfl [.int .i64 ix', .int .i64 tm', .int .i64 kd', .slice a' n' c'] rfl ?_; intro w2 hr2 hb2 hz2; obtain ⟨c0, c1, c2, c3⟩ := (HR1.out.below hb2 HR1.out.lt).q4; obtain ⟨d0, d1, d2, d3⟩ := hr2.q4; have B2 := Lib.hid (B1.out.trans (hb2.mono B1.out.size)); have B9 := Lib.hid B2.out; clear hr2 hb2 hz2)
      | (go_at_call 27; (with_reducible refine (sequal a a' n n' c c' l m w2 ?_ ?_).mono ?_); (focus (exact HE.out.mono B2.out)); (focus (exact HF.out.mono B2.out)); rw [H3.out]; rintro x w3 ⟨rfl, hq⟩; clear B9; have B9 := Lib.hid (B2.out.trans ((hq.below w2.heap.size).mono B2.out.size)); clear hq))
    go_ret
    exact ⟨one (vbool (by rw [HX.out]; simp)), B9.out⟩
set_option maxRecDepth 100000 in
set_option maxHeartbeats 8000000 in
theorem eqEnts13 (a a' : Option Addr) (n c n' c' : Nat) (L M : List (En × List UInt8)) (w : World) (h1 : Ents w a n c L) (h2 : Ents w a' n' c' M) (hl : n ≤ 1000000) :
    Calls Try.prog 51 #[.slice a n c, .slice a' n' c', .func (.func 52) #[] #[]] w fun x w' => x = .returned (.bool (decide (L.map pe = M.map pe))) ∧ Below w.heap.size w w' := by
  have H1 := Lib.hid h1
  have H2 := Lib.hid h2
  have HL1 := Lib.hid h1.hlen
  have HL2 := Lib.hid h2.hlen
  have EZ := Lib.hid en_zero
  have ES := Lib.hid en_size
  obtain ⟨V, hV⟩ : ∃ V, decide (L.map pe = M.map pe) = V := ⟨_, rfl⟩
  rw [hV]
  have HV := Lib.hid hV
  clear h1 h2 hV
  by_cases hnn : n = n'
  · subst hnn
    go_enter Try.func51, Try.ntmps51
    go_wp2_with fail
    go_loopw [17] (fun i wr => ∃ k : Nat, i = .int .i64 (k : Int) ∧ k ≤ n ∧ Hid ((L.take k).map pe = (M.take k).map pe) ∧ Hid (Below w.heap.size w wr)) (fun i _ => n - (intOf i).toNat)
    case atStart => exact ⟨0, rfl, Nat.zero_le _, Lib.hid rfl, Lib.hid (Below.refl _ _)⟩
    case round =>
      obtain ⟨k, rfl, hk, P, B⟩ := hrel
      by_cases hlt : k < n
      · obtain ⟨x1, o1, rfl, hx1, hf1, hk1⟩ := H1.out.at B.out k hlt
        obtain ⟨x2, o2, rfl, hx2, hf2, hk2⟩ := H2.out.at B.out k hlt
        have hstep := map_take_next L M k hk1 hk2 P.out
        have hne := map_ne L M k hk1 hk2
        obtain ⟨⟨e1, l1⟩, hq1⟩ : ∃ y, L.getD k Ez = y := ⟨_, rfl⟩
        obtain ⟨⟨e2, l2⟩, hq2⟩ : ∃ y, M.getD k Ez = y := ⟨_, rfl⟩
        rw [hq1, hq2] at hstep hne
        rw [hq1] at hx1 hf1
        rw [hq2] at hx2 hf2
        dsimp only at hx1 hf1 hx2 hf2
        have X1 := Lib.hid hx1
        have X2 := Lib.hid hx2
        have F1 := Lib.hid hf1
        have F2 := Lib.hid hf2
        have SP := Lib.hid (same_pe e1 e2 l1 l2)
        have g1 : (0 : Int) ≤ (k : Int) := by omega
        have g2 : (k : Int) < (n : Int) := by omega
        clear hx1 hx2 hf1 hf2 hq1 hq2 hk1 hk2
        by_cases heq : pe (e1, l1) = pe (e2, l2)
        · have HN := Lib.hid (hstep heq)
          have SV := Lib.hid (show sameE e1 e2 l1 l2 = true by rw [SP.out]; exact decide_eq_true heq)
          clear hstep hne heq
          go_wp2_with (first
            | ((with_reducible refine load_cells (o := ⟨some 21, _, _, _, _, _⟩) rfl _ _ rfl x1 (o1 + k * 4) ?_ e1.cells _ X1.out Try.underlying34 rfl ?_ ?_); (focus go_simp); (focus (exact ES.out)))
            | ((with_reducible refine alloc_row (o := ⟨some 8, _, _, _, _, _⟩) rfl _ rfl _ EZ.out ?_); intro w1 hr hb hz; have A1 := Lib.hid hr; have B1 := Lib.hid hb; clear hr hb hz)
            | ((with_reducible refine store_row (o := ⟨none, _, _, _, _, _⟩) rfl _ (.tmp 8) _ rfl wr.heap.size e1.cells ?_ ?_ 34 _ A1.out ?_ ?_ (cells_one _) ?_); (focus go_simp); (focus (first | (go_simp; done) | (go_simp; rfl))); (focus (exact ES.out)); (focus rfl); intro w2 hr hu; have A2 := Lib.hid hr; have B2 := Lib.hid (B1.out.trans (hu.below (Nat.le_refl _))); clear hr hu)
            | ((with_reducible refine load_cells (o := ⟨some 25, _, _, _, _, _⟩) rfl _ _ rfl x2 (o2 + k * 4) ?_ e2.cells _ (fun j v hj => by rw [B2.out.cell (p := ⟨x2, o2 + k * 4 + j, none⟩) (World.block_lt_of_cell? wr _ (X2.out j v hj))]; exact X2.out j v hj) Try.underlying34 rfl ?_ ?_); (focus go_simp); (focus (exact ES.out)))
            | ((with_reducible refine alloc_row (o := ⟨some 9, _, _, _, _, _⟩) rfl _ rfl _ EZ.out ?_); intro w3 hr hb hz; have C3 := Lib.hid hr; have A3 := Lib.hid (A2.out.below hb A2.out.lt); have L3 := Lib.hid (show wr.heap.size < w2.heap.size from A2.out.lt); have B3 := Lib.hid (B2.out.trans (hb.mono B2.out.size)); clear hr hb hz)
            | ((with_reducible refine store_row (o := ⟨none, _, _, _, _, _⟩) rfl _ (.tmp 9) _ rfl w2.heap.size e2.cells ?_ ?_ 34 _ C3.out ?_ ?_ (cells_one _) ?_); (focus go_simp); (focus (first | (go_simp; done) | (go_simp; rfl))); (focus (exact ES.out)); (focus rfl); intro w4 hr hu; have C4 := Lib.hid hr; have A4 := Lib.hid (A3.out.upd hu (Nat.ne_of_lt L3.out)); have B4 := Lib.hid (B3.out.trans (hu.below B2.out.size)); clear hr hu)
            | ((with_reducible refine load_row (o := ⟨some 27, _, _, _, _, _⟩) rfl _ _ rfl wr.heap.size ?_ _ e1.cells _ A4.out Try.underlying34 rfl ?_ ?_); (focus go_simp); (focus (exact ES.out)))
            | ((with_reducible refine load_row (o := ⟨some 28, _, _, _, _, _⟩) rfl _ _ rfl w2.heap.size ?_ _ e2.cells _ C4.out Try.underlying34 rfl ?_ ?_); (focus go_simp); (focus (exact ES.out)))
            | (go_at_call 52; refine (lclos13 e1 e2 l1 l2 w4 (F1.out.rd.mono B4.out) (F2.out.rd.mono B4.out)).mono ?_; rw [SV.out]; rintro e w5 ⟨rfl, hb5⟩; have B5 := Lib.hid ((B.out.trans (B4.out.mono B.out.size)).trans (hb5.mono (Nat.le_trans B.out.size B4.out.size))); clear hb5))
          go_roundw
          case rel => exact ⟨k + 1, vint (by omega), by omega, HN, B5⟩
          case measure => simp [intOf]; omega
        · have HN := Lib.hid (hne heq)
          have SV := Lib.hid (show sameE e1 e2 l1 l2 = false by rw [SP.out]; exact decide_eq_false heq)
          clear hstep hne heq
          go_wp2_with (first
            | ((with_reducible refine load_cells (o := ⟨some 21, _, _, _, _, _⟩) rfl _ _ rfl x1 (o1 + k * 4) ?_ e1.cells _ X1.out Try.underlying34 rfl ?_ ?_); (focus go_simp); (focus (exact ES.out)))
            | ((with_reducible refine alloc_row (o := ⟨some 8, _, _, _, _, _⟩) rfl _ rfl _ EZ.out ?_); intro w1 hr hb hz; have A1 := Lib.hid hr; have B1 := Lib.hid hb; clear hr hb hz)
            | ((with_reducible refine store_row (o := ⟨none, _, _, _, _, _⟩) rfl _ (.tmp 8) _ rfl wr.heap.size e1.cells ?_ ?_ 34 _ A1.out ?_ ?_ (cells_one _) ?_); (focus go_simp); (focus (first | (go_simp; done) | (go_simp; rfl))); (focus (exact ES.out)); (focus rfl); intro w2 hr hu; have A2 := Lib.hid hr; have B2 := Lib.hid (B1.out.trans (hu.below (Nat.le_refl _))); clear hr hu)
            | ((with_reducible refine load_cells (o := ⟨some 25, _, _, _, _, _⟩) rfl _ _ rfl x2 (o2 + k * 4) ?_ e2.cells _ (fun j v hj => by rw [B2.out.cell (p := ⟨x2, o2 + k * 4 + j, none⟩) (World.block_lt_of_cell? wr _ (X2.out j v hj))]; exact X2.out j v hj) Try.underlying34 rfl ?_ ?_); (focus go_simp); (focus (exact ES.out)))
            | ((with_reducible refine alloc_row (o := ⟨some 9, _, _, _, _, _⟩) rfl _ rfl _ EZ.out ?_); intro w3 hr hb hz; have C3 := Lib.hid hr; have A3 := Lib.hid (A2.out.below hb A2.out.lt); have L3 := Lib.hid (show wr.heap.size < w2.heap.size from A2.out.lt); have B3 := Lib.hid (B2.out.trans (hb.mono B2.out.size)); clear hr hb hz)
            | ((with_reducible refine store_row (o := ⟨none, _, _, _, _, _⟩) rfl _ (.tmp 9) _ rfl w2.heap.size e2.cells ?_ ?_ 34 _ C3.out ?_ ?_ (cells_one _) ?_); (focus go_simp); (focus (first | (go_simp; done) | (go_simp; rfl))); (focus (exact ES.out)); (focus rfl); intro w4 hr hu; have C4 := Lib.hid hr; have A4 := Lib.hid (A3.out.upd hu (Nat.ne_of_lt L3.out)); have B4 := Lib.hid (B3.out.trans (hu.below B2.out.size)); clear hr hu)
            | ((with_reducible refine load_row (o := ⟨some 27, _, _, _, _, _⟩) rfl _ _ rfl wr.heap.size ?_ _ e1.cells _ A4.out Try.underlying34 rfl ?_ ?_); (focus go_simp); (focus (exact ES.out)))
            | ((with_reducible refine load_row (o := ⟨some 28, _, _, _, _, _⟩) rfl _ _ rfl w2.heap.size ?_ _ e2.cells _ C4.out Try.underlying34 rfl ?_ ?_); (focus go_simp); (focus (exact ES.out)))
            | (go_at_call 52; refine (lclos13 e1 e2 l1 l2 w4 (F1.out.rd.mono B4.out) (F2.out.rd.mono B4.out)).mono ?_; rw [SV.out]; rintro e w5 ⟨rfl, hb5⟩; have B5 := Lib.hid ((B.out.trans (B4.out.mono B.out.size)).trans (hb5.mono (Nat.le_trans B.out.size B4.out.size))); clear hb5))
          go_ret
          exact ⟨one (vbool (by rw [← HV.out]; exact (decide_eq_false HN.out).symm)), B5.out⟩
      · obtain rfl : n = k := by omega
        have h9 := P.out
        rw [List.take_of_length_le (by rw [HL1.out]; exact Nat.le_refl _), List.take_of_length_le (by rw [HL2.out]; exact Nat.le_refl _)] at h9
        have P9 := Lib.hid h9
        clear h9
        go_wp2_with fail
        go_ret
        exact ⟨one (vbool (by rw [← HV.out]; exact (decide_eq_true P9.out).symm)), B.out⟩
  · have hne : ((n : Int) == (n' : Int)) = false := by simp; omega
    have HF := Lib.hid (show ¬ L.map pe = M.map pe from fun h => hnn (by have := congrArg List.length h; simp at this; rw [HL1.out, HL2.out] at this; exact this))
    go_enter Try.func51, Try.ntmps51
    go_wp2_with fail
    go_ret
    exact ⟨one (vbool (by rw [← HV.out]; exact (decide_eq_false HF.out).symm)), Below.refl _ _⟩

set_option maxRecDepth 100000 in
theorem lequal (a a' : Option Addr) (n c n' c' : Nat) (L M : List (En × List UInt8)) (w : World) (h1 : Ents w a n c L) (h2 : Ents w a' n' c' M) (hl : n ≤ 1000000) :
    Calls Try.prog 23 #[.slice a n c, .slice a' n' c'] w fun x w' => x = .returned (.bool (decide (L.map pe = M.map pe))) ∧ Below w.heap.size w w' := by
  have H1 := Lib.hid h1
  have H2 := Lib.hid h2
  obtain ⟨V, hV⟩ : ∃ V, decide (L.map pe = M.map pe) = V := ⟨_, rfl⟩
  have KEY := Lib.hid (eqEnts13 a a' n c n' c' L M w h1 h2 hl)
  rw [hV] at KEY ⊢
  clear h1 h2 hV
  go_enter Try.func23, Try.ntmps23
  go_wp2_with (first | (go_at_call 51; (with_reducible refine KEY.out.mono ?_); rintro x w1 ⟨rfl, hb⟩; have B1 := Lib.hid hb; clear hb))
  go_ret
  exact ⟨rfl, B1.out⟩
/-- a base that may be -/
def atV (n : Int) : Int := (n % 18446744073709551616) % 1073741824
theorem atV_le (n : Int) : 0 ≤ atV n ∧ atV n < 1073741824 := by unfold atV; omega
set_option maxRecDepth 100000 in
theorem lat (n : Int) (w : World) : Calls Try.prog 9 #[.int .i64 n] w fun x w' => x = .returned (.int .i64 (atV n)) ∧ w = w' := by
  have e1 : IntKind.u64.wrap n = n % 18446744073709551616 := IntKind.wrap_u64 n
  have e2 : (n % 18446744073709551616).tmod 1073741824 = atV n := by
    unfold atV; rw [Int.tmod_eq_emod_of_nonneg (by omega)]
  have e3 : IntKind.i64.wrap (atV n) = atV n := by rw [IntKind.wrap_i64]; have := atV_le n; omega
  have e4 : IntKind.u64.wrap (atV n) = atV n := by rw [IntKind.wrap_u64]; have := atV_le n; omega
  go_enter Try.func9, Try.ntmps9
  go_wp2_with fail
  go_ret
  refine ⟨?_, rfl⟩
  simp [e1, e2, e3, e4]
set_option maxRecDepth 100000 in
set_option maxHeartbeats 4000000 in
theorem lfew13 (a : Option Addr) (n c : Nat) (L : List (En × List UInt8)) (w : World) (h : Ents w a n c L) (V : Bool) (hV : V = true ↔ (n ≤ 60 ∧ ∀ j, j < n → (L.getD j Ez).1.n ≤ 300)) :
    Calls Try.prog 7 #[.slice a n c] w fun x w' => x = .returned (.bool V) ∧ Below w.heap.size w w' := by
  have H := Lib.hid h
  have HV := Lib.hid hV
  clear hV
  have EZ := Lib.hid en_zero
  have ES := Lib.hid en_size
  clear h
  go_enter Try.func7, Try.ntmps7
  go_wp2_with fail
  go_loopw [7] (fun i wr => ∃ (k : Nat), i = .int .i64 (k : Int) ∧ k ≤ n ∧ k ≤ 60 ∧ Hid (∀ j, j < k → (L.getD j Ez).1.n ≤ 300) ∧ Hid (Below w.heap.size w wr)) (fun i _ => n - (intOf i).toNat)
  case atStart => exact ⟨0, rfl, Nat.zero_le _, Nat.zero_le _, Lib.hid (fun j hj => absurd hj (Nat.not_lt_zero _)), Lib.hid (Below.refl _ _)⟩
  case round =>
    obtain ⟨k, rfl, hk, hk60, HA, HB⟩ := hrel
    by_cases hlt : k < n
    · obtain ⟨x1, o1, rfl, hx1, hf1, hk1⟩ := H.out.at HB.out k hlt
      obtain ⟨⟨⟨ix, tm, kd, qa, qn, qc⟩, ql⟩, hq⟩ : ∃ y, L.getD k Ez = y := ⟨_, rfl⟩
      have HQN := Lib.hid (show (L.getD k Ez).1.n = qn by rw [hq])
      rw [hq] at hx1
      dsimp only at hx1
      have X1 := Lib.hid hx1
      have g1 : (0 : Int) ≤ (k : Int) := by omega
      have g2 : (k : Int) < (n : Int) := by omega
      clear hx1 hf1 hq hk1
      by_cases h60 : k < 60
      · have g3 : ((k : Int) ≥ 60) = False := by simp; omega
        have g4 : decide ((60 : Int) ≤ (k : Int)) = false := by simp; omega
        by_cases h300 : qn ≤ 300
        · have g5 : decide ((300 : Int) < (qn : Int)) = false := by simp; omega
          go_wp2_with (first
            | ((with_reducible refine load_cells (o := ⟨some 11, _, _, _, _, _⟩) rfl _ _ rfl x1 (o1 + k * 4) ?_ (En.cells ⟨ix, tm, kd, qa, qn, qc⟩) _ X1.out Try.underlying34 rfl ?_ ?_); (focus go_simp); (focus (exact ES.out)))
            | ((with_reducible refine alloc_row (o := ⟨some 4, _, _, _, _, _⟩) rfl _ rfl _ EZ.out ?_); intro w2 hr hb hz; have E2 := Lib.hid hr; have B2 := Lib.hid (HB.out.trans (hb.mono HB.out.size)); clear hr hb hz)
            | ((with_reducible refine store_row (o := ⟨none, _, _, _, _, _⟩) rfl _ (.tmp 4) _ rfl wr.heap.size (En.cells ⟨ix, tm, kd, qa, qn, qc⟩) ?_ ?_ 34 _ E2.out ?_ ?_ (cells_one _) ?_); (focus go_simp); (focus (first | (go_simp; done) | (go_simp; rfl))); (focus (exact ES.out)); (focus rfl); intro w3 hr hu; obtain ⟨c0, c1, c2, c3⟩ := hr.q4; have B3 := Lib.hid (B2.out.trans (hu.below HB.out.size)); clear hr hu))
          go_roundw
          case rel => exact ⟨k + 1, vint (by omega), by omega, by omega, Lib.hid (fun j hj => by
            by_cases e : j = k
            · rw [e, HQN.out]; exact h300
            · exact HA.out j (by omega)), B3⟩
          case measure => (simp [intOf]; try omega)
        · have g5 : decide ((300 : Int) < (qn : Int)) = true := by simp; omega
          go_wp2_with (first
            | ((with_reducible refine load_cells (o := ⟨some 11, _, _, _, _, _⟩) rfl _ _ rfl x1 (o1 + k * 4) ?_ (En.cells ⟨ix, tm, kd, qa, qn, qc⟩) _ X1.out Try.underlying34 rfl ?_ ?_); (focus go_simp); (focus (exact ES.out)))
            | ((with_reducible refine alloc_row (o := ⟨some 4, _, _, _, _, _⟩) rfl _ rfl _ EZ.out ?_); intro w2 hr hb hz; have E2 := Lib.hid hr; have B2 := Lib.hid (HB.out.trans (hb.mono HB.out.size)); clear hr hb hz)
            | ((with_reducible refine store_row (o := ⟨none, _, _, _, _, _⟩) rfl _ (.tmp 4) _ rfl wr.heap.size (En.cells ⟨ix, tm, kd, qa, qn, qc⟩) ?_ ?_ 34 _ E2.out ?_ ?_ (cells_one _) ?_); (focus go_simp); (focus (first | (go_simp; done) | (go_simp; rfl))); (focus (exact ES.out)); (focus rfl); intro w3 hr hu; obtain ⟨c0, c1, c2, c3⟩ := hr.q4; have B3 := Lib.hid (B2.out.trans (hu.below HB.out.size)); clear hr hu))
          go_ret
          have hf : V = false := by
            cases hVe : V
            · rfl
            · exact absurd ((HV.out.1 hVe).2 k hlt) (by rw [HQN.out]; exact h300)
          exact ⟨by rw [hf]; rfl, B3.out⟩
      · have g4 : decide ((60 : Int) ≤ (k : Int)) = true := by simp; omega
        have g5 : (60 : Int) ≤ (k : Int) := by omega
        go_wp2_with (first
          | ((with_reducible refine load_cells (o := ⟨some 11, _, _, _, _, _⟩) rfl _ _ rfl x1 (o1 + k * 4) ?_ (En.cells ⟨ix, tm, kd, qa, qn, qc⟩) _ X1.out Try.underlying34 rfl ?_ ?_); (focus go_simp); (focus (exact ES.out)))
            | ((with_reducible refine alloc_row (o := ⟨some 4, _, _, _, _, _⟩) rfl _ rfl _ EZ.out ?_); intro w2 hr hb hz; have E2 := Lib.hid hr; have B2 := Lib.hid (HB.out.trans (hb.mono HB.out.size)); clear hr hb hz)
            | ((with_reducible refine store_row (o := ⟨none, _, _, _, _, _⟩) rfl _ (.tmp 4) _ rfl wr.heap.size (En.cells ⟨ix, tm, kd, qa, qn, qc⟩) ?_ ?_ 34 _ E2.out ?_ ?_ (cells_one _) ?_); (focus go_simp); (focus (first | (go_simp; done) | (go_simp; rfl))); (focus (exact ES.out)); (focus rfl); intro w3 hr hu; obtain ⟨c0, c1, c2, c3⟩ := hr.q4; have B3 := Lib.hid (B2.out.trans (hu.below HB.out.size)); clear hr hu))
        go_ret
        have hf : V = false := by
          cases hVe : V
          · rfl
          · exact absurd (HV.out.1 hVe).1 (by omega)
        exact ⟨by rw [hf]; rfl, B3.out⟩
    · obtain rfl : k = n := by omega
      go_wp2_with fail
      go_ret
      exact ⟨by rw [HV.out.2 ⟨hk60, HA.out⟩]; rfl, HB.out⟩
end Go.Proofs.Ytnlbdgaleibgcaa.W
