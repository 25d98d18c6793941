/- LAYER 13 (rlog): what compacting leaves, plain; the program's log, opaque, by its plain one. -/
import Derived.Test.YtnlbdgaleibgcaaRlL
import Derived.Test.YtnlbdgaleibgcaaRlM
set_option linter.unusedSimpArgs false
set_option linter.unusedVariables false
namespace Go.Proofs.Ytnlbdgaleibgcaa.W
open Go Go.ChangeShapes Go.WideShapes Go.ChangeAt Go.RowKit

theorem rise_get : ∀ (l : List Pe) (b : Int) (j : Nat) (hj : j < l.length), rise b l → (l[j]).1 = b + 1 + j
  | x :: l, b, 0, _, h => by have := h.1; simp; omega
  | x :: l, b, j + 1, hj, h => by
    have := rise_get l (b + 1) j (by simpa using hj) h.2
    rw [List.getElem_cons_succ, this]; omega
theorem confL_cat (i : Int) : ∀ (A B : List Pe) (c : Int), confL i c (A ++ B) = confL i (confL i c A) B
  | [], _, _ => rfl
  | x :: A, B, c => confL_cat i A B _
theorem confL_high (i : Int) : ∀ (B : List Pe) (c : Int), (∀ x ∈ B, ¬ x.1 ≤ i) → confL i c B = c
  | [], _, _ => rfl
  | x :: B, c, h => by
    unfold confL
    rw [if_neg (fun k => h x List.mem_cons_self k.1)]
    exact confL_high i B c (fun y hy => h y (List.mem_cons_of_mem _ hy))
theorem confL_eq (i j : Int) : ∀ (A : List Pe) (c : Int), (∀ x ∈ A, x.1 ≤ i ∧ x.1 ≤ j) → confL i c A = confL j c A
  | [], _, _ => rfl
  | x :: A, c, h => by
    have h1 := h x List.mem_cons_self
    unfold confL
    simp only [h1.1, h1.2, true_and]
    exact confL_eq i j A _ (fun y hy => h y (List.mem_cons_of_mem _ hy))
/-- a place that a log can be compacted to -/
theorem termE_in {q : LS} {i : Int} (h1 : q.b ≤ i) (h2 : i ≤ q.last) : q.termE i = 0 := by
  unfold LS.termE
  split
  · rfl
  · rename_i h
    have : q.has i = true := by unfold LS.has; simp; omega
    rw [if_pos this]
theorem compact_is {q : LS} (h : LOK q) {i : Int} (h1 : q.b ≤ i) (h2 : i ≤ q.last) : q.compact i = (⟨i, q.term i, q.confAt i, q.l.drop (i - q.b).toNat⟩, 0) := by
  unfold LS.compact
  rw [if_pos (termE_in h1 h2)]
  have h3 := (rise_drop q.l q.b i h.r h1 (by unfold LS.last at h2; exact h2)).2
  rw [h3]
theorem compact_all {q : LS} (h : LOK q) {i : Int} (h1 : q.b ≤ i) (h2 : i ≤ q.last) :
    (q.compact i).2 = 0 ∧ (q.compact i).1.b = i ∧ (q.compact i).1.last = q.last ∧ (q.compact i).1.term q.last = q.term q.last ∧ (q.compact i).1.confAt q.last = q.confAt q.last ∧ ∀ m, (q.compact i).1.from (i + 1) m = q.from (i + 1) m := by
  have hl : q.last = q.b + q.l.length := rfl
  have hdl : (q.l.drop (i - q.b).toNat).length = q.l.length - (i - q.b).toNat := List.length_drop
  have hlast : (q.compact i).1.last = q.last := by
    rw [compact_is h h1 h2]; unfold LS.last; dsimp only; rw [hdl]; omega
  refine ⟨by rw [compact_is h h1 h2], by rw [compact_is h h1 h2], hlast, ?_, ?_, ?_⟩
  · by_cases he : q.last = i
    · have : (q.compact i).1.term q.last = q.term i := by
        rw [compact_is h h1 h2, he]; unfold LS.term; rw [if_pos rfl]
      rw [this, he]
    · have hh1 : q.has q.last = true := by unfold LS.has; simp; omega
      have hh2 : (q.compact i).1.has q.last = true := by
        unfold LS.has; rw [hlast, compact_is h h1 h2]; simp; omega
      have hne1 : ¬ q.last = q.b := by omega
      have hne2 : ¬ q.last = (q.compact i).1.b := by rw [compact_is h h1 h2]; exact he
      have hat : (q.compact i).1.at q.last = q.at q.last := by
        unfold LS.at
        rw [compact_is h h1 h2]
        dsimp only
        simp only [List.getD_eq_getElem?_getD, List.getElem?_drop]
        congr 2
        omega
      unfold LS.term
      rw [if_neg hne1, if_neg hne2, hh1, hh2, if_pos rfl, if_pos rfl]
      rw [hat]
  · rw [compact_is h h1 h2]
    unfold LS.confAt
    dsimp only
    have hsp : q.l = q.l.take (i - q.b).toNat ++ q.l.drop (i - q.b).toNat := (List.take_append_drop _ _).symm
    have hA : ∀ x ∈ q.l.take (i - q.b).toNat, x.1 ≤ q.last ∧ x.1 ≤ i := by
      intro x hx
      obtain ⟨j, hj, rfl⟩ := List.getElem_of_mem hx
      rw [List.length_take] at hj
      rw [List.getElem_take, rise_get q.l q.b j (by omega) h.r]
      omega
    have hB : ∀ x ∈ q.l.drop (i - q.b).toNat, ¬ x.1 ≤ i := by
      intro x hx
      obtain ⟨j, hj, rfl⟩ := List.getElem_of_mem hx
      rw [hdl] at hj
      rw [List.getElem_drop, rise_get q.l q.b _ (by omega) h.r]
      omega
    have e1 : confL i q.c q.l = confL i q.c (q.l.take (i - q.b).toNat) := by
      conv => lhs; rw [hsp]
      rw [confL_cat, confL_high i _ _ hB]
    have e2 : confL q.last q.c q.l = confL q.last (confL i q.c (q.l.take (i - q.b).toNat)) (q.l.drop (i - q.b).toNat) := by
      conv => lhs; rw [hsp]
      rw [confL_cat, confL_eq q.last i _ _ hA]
    rw [e1, e2]
  · intro m
    have hb2 : (q.compact i).1.b = i := by rw [compact_is h h1 h2]
    have hh : (q.compact i).1.has (i + 1) = q.has (i + 1) := by
      unfold LS.has
      rw [hlast, hb2, decide_eq_true (show i < i + 1 by omega), decide_eq_true (show q.b < i + 1 by omega)]
    unfold LS.from
    rw [hh, hb2]
    have e1 : (i + 1 - i - 1).toNat = 0 := by omega
    have e2 : (i + 1 - q.b - 1).toNat = (i - q.b).toNat := by omega
    rw [e1, e2, compact_is h h1 h2]
    rfl
theorem from_rise {q : LS} (h : LOK q) {i : Int} (h1 : q.b ≤ i) (m : Int) {j : Nat} (hj : j < (q.from (i + 1) m).length) : ((q.from (i + 1) m)[j]).1 = i + 1 + j := by
  have key : ∀ l, l = q.from (i + 1) m → ∀ hj : j < l.length, (l[j]).1 = i + 1 + j := by
    intro l hl hj
    unfold LS.from at hl
    split at hl
    · subst hl
      have e2 : (i + 1 - q.b - 1).toNat = (i - q.b).toNat := by omega
      simp only [List.length_take, List.length_drop] at hj
      rw [List.getElem_take, List.getElem_drop, rise_get q.l q.b _ (by omega) h.r]
      omega
    · subst hl; cases hj
  exact key _ rfl hj
theorem from_len {q : LS} (h : LOK q) (i m : Int) : (q.from i m).length ≤ 200 := by
  unfold LS.from
  split
  · rw [List.length_take, List.length_drop]; have := h.n; omega
  · exact Nat.zero_le _
/-- the program's log, by its plain one -/
structure GL (q : LS) (w : World) (p : Nat) (F : Nat → Prop) : Prop where
  ok : LOK q
  ex : ∃ ea en ec L, LG w p F q.b q.t q.c ea en ec L ∧ lsOf q.b q.t q.c L = q
  lt : ∀ k, F k → k < w.heap.size
theorem GL.mk' {w : World} {p : Nat} {F : Nat → Prop} {b t c : Int} {ea : Option Addr} {en ec : Nat} {L : List (En × List UInt8)} {q : LS} (h : LG w p F b t c ea en ec L) (hq : lsOf b t c L = q) (ho : LOK q) : GL q w p F := by
  subst hq
  exact ⟨ho, ⟨ea, en, ec, L, h, rfl⟩, h.lt⟩
theorem GL.mono {q : LS} {w w' : World} {p : Nat} {F : Nat → Prop} (h : GL q w p F) (hb : Below w.heap.size w w') : GL q w' p F := by
  obtain ⟨ea, en, ec, L, hL, hq⟩ := h.ex
  exact ⟨h.ok, ⟨ea, en, ec, L, hL.mono hb, hq⟩, fun k hk => Nat.lt_of_lt_of_le (h.lt k hk) hb.size⟩
theorem GL.ft {q : LS} {w w' : World} {p : Nat} {F G : Nat → Prop} (h : GL q w p F) (k : Ft G w w') (hd : ∀ x, F x → ¬ G x) : GL q w' p F := by
  obtain ⟨ea, en, ec, L, hL, hq⟩ := h.ex
  exact ⟨h.ok, ⟨ea, en, ec, L, hL.ft k hd, hq⟩, fun x hx => Nat.lt_of_lt_of_le (h.lt x hx) k.size⟩
theorem Fre.ft {w w' : World} {base : Nat} {a : Option Addr} {n c : Nat} {L : List (En × List UInt8)} {G : Nat → Prop} (h : Fre w base a n c L) (k : Ft G w w') (hd : ∀ x, G x → x < base) : Fre w' base a n c L :=
  ⟨h.es.ft k (fun x off e hg => absurd (h.ne x off e) (Nat.not_le.2 (hd x hg))), fun x hx => ⟨(h.fit x hx).ix, (h.fit x hx).tm, (h.fit x hx).kd, (h.fit x hx).rd.ft k (fun hn b off e hg => absurd (h.fa x hx hn b off e) (Nat.not_le.2 (hd b hg)))⟩, h.ne, h.fa⟩
section
variable {q : LS} {w : World} {p : Nat} {F : Nat → Prop}
theorem qbase (h : GL q w p F) : Calls Try.prog 33 #[.pointer (some ⟨p, 0, none⟩)] w fun x w' => x = .returned (.int .i64 q.b) ∧ Below w.heap.size w w' := by
  obtain ⟨ea, en, ec, L, hL, hq⟩ := h.ex
  refine (gbase p F q.b q.t q.c ea en ec L w hL (by rw [hq]; exact h.ok)).mono ?_
  rintro x w' ⟨rfl, rfl⟩; exact ⟨rfl, Below.refl _ _⟩
theorem qlast (h : GL q w p F) : Calls Try.prog 30 #[.pointer (some ⟨p, 0, none⟩)] w fun x w' => x = .returned (.int .i64 q.last) ∧ Below w.heap.size w w' := by
  obtain ⟨ea, en, ec, L, hL, hq⟩ := h.ex
  have := glast p F q.b q.t q.c ea en ec L w hL (by rw [hq]; exact h.ok)
  rwa [hq] at this
theorem qlastT (h : GL q w p F) : Calls Try.prog 31 #[.pointer (some ⟨p, 0, none⟩)] w fun x w' => x = .returned (.int .i64 (q.term q.last)) ∧ Below w.heap.size w w' := by
  obtain ⟨ea, en, ec, L, hL, hq⟩ := h.ex
  have := glastT p F q.b q.t q.c ea en ec L w hL (by rw [hq]; exact h.ok)
  rwa [hq] at this
theorem qterm (h : GL q w p F) (i : Int) : Calls Try.prog 34 #[.pointer (some ⟨p, 0, none⟩), .int .i64 i] w fun x w' => x = .returned (.tuple #[.int .i64 (q.term i), .int .i64 (q.termE i)]) ∧ Below w.heap.size w w' := by
  obtain ⟨ea, en, ec, L, hL, hq⟩ := h.ex
  have := gterm p F q.b q.t q.c ea en ec L i w hL (by rw [hq]; exact h.ok)
  rwa [hq] at this
theorem qconf (h : GL q w p F) : Calls Try.prog 32 #[.pointer (some ⟨p, 0, none⟩)] w fun x w' => x = .returned (.int .i64 (q.confAt q.last)) ∧ Below w.heap.size w w' := by
  obtain ⟨ea, en, ec, L, hL, hq⟩ := h.ex
  have := gconf p F q.b q.t q.c ea en ec L w hL (by rw [hq]; exact h.ok)
  rwa [hq] at this
theorem qconfAt (h : GL q w p F) (i : Int) : Calls Try.prog 35 #[.pointer (some ⟨p, 0, none⟩), .int .i64 i] w fun x w' => x = .returned (.int .i64 (q.confAt i)) ∧ Below w.heap.size w w' := by
  obtain ⟨ea, en, ec, L, hL, hq⟩ := h.ex
  have := gconfAt p F q.b q.t q.c ea en ec L i w hL (by rw [hq]; exact h.ok)
  rwa [hq] at this
theorem qfrom (h : GL q w p F) (i m : Int) (wm : (Lit.int .i64 m).wf = true) : Calls Try.prog 22 #[.pointer (some ⟨p, 0, none⟩), .int .i64 i, .int .i64 m] w fun x w' => ∃ a n cp R, x = .returned (.slice a n cp) ∧ Fre w' w.heap.size a n cp R ∧ R.map pe = q.from i m ∧ Below w.heap.size w w' := by
  obtain ⟨ea, en, ec, L, hL, hq⟩ := h.ex
  have := gfrom p F q.b q.t q.c ea en ec L i m w hL (by rw [hq]; exact h.ok) wm
  rwa [hq] at this
theorem qcompact (h : GL q w p F) (i : Int) (hl : q.last ≤ 4294967296) : Calls Try.prog 18 #[.pointer (some ⟨p, 0, none⟩), .int .i64 i] w fun x w' => x = .returned (.int .i64 (q.compact i).2) ∧ GL (q.compact i).1 w' p F ∧ Ft F w w' := by
  obtain ⟨ea, en, ec, L, hL, hq⟩ := h.ex
  refine (gcompact p F q.b q.t q.c ea en ec L i w hL (by rw [hq]; exact h.ok)).mono ?_
  rintro x w' ⟨b', t', c', en', L', rfl, hL', heq, -, hft⟩
  rw [hq] at heq
  refine ⟨by rw [hq], GL.mk' hL' heq ?_, hft⟩
  rcases h.ok.compact (i := i) hl with h1 | h1
  · exact h1.1
  · rw [h1]; exact h.ok
theorem qcut (h : GL q w p F) (i : Int) : Calls Try.prog 16 #[.pointer (some ⟨p, 0, none⟩), .int .i64 i] w fun x w' => x = .returned (.int .i64 (q.cut i).2) ∧ GL (q.cut i).1 w' p F ∧ Ft F w w' := by
  obtain ⟨ea, en, ec, L, hL, hq⟩ := h.ex
  refine (gcut p F q.b q.t q.c ea en ec L i w hL (by rw [hq]; exact h.ok)).mono ?_
  rintro x w' ⟨en', L', rfl, hL', heq, hft⟩
  rw [hq] at heq
  exact ⟨by rw [hq], GL.mk' hL' heq h.ok.cut, hft⟩
theorem qappend (h : GL q w p F) (e : En) (l : List UInt8) (he : EnF w e l) (hn : q.l.length + 1 ≤ 200) : Calls Try.prog 14 #[.pointer (some ⟨p, 0, none⟩), .agg e.cells.toArray] w fun x w' => x = .returned (.int .i64 (q.app (pe (e, l))).2) ∧ GL (q.app (pe (e, l))).1 w' p (FG F w w') ∧ Ft F w w' := by
  obtain ⟨ea, en, ec, L, hL, hq⟩ := h.ex
  refine (gappend p F q.b q.t q.c ea en ec L e l w hL (by rw [hq]; exact h.ok) he).mono ?_
  rintro x w' ⟨ea', en', ec', L', rfl, hL', heq, hft⟩
  rw [hq] at heq
  exact ⟨by rw [hq], GL.mk' hL' heq (h.ok.app hn), hft⟩
theorem qreset (h : GL q w p F) (b t c : Int) (hb : 0 ≤ b ∧ b ≤ 4294967296) : Calls Try.prog 20 #[.pointer (some ⟨p, 0, none⟩), .int .i64 b, .int .i64 t, .int .i64 c] w fun x w' => (∃ v, x = .returned v) ∧ GL ⟨b, t, c, []⟩ w' p F ∧ Ft F w w' := by
  obtain ⟨ea, en, ec, L, hL, hq⟩ := h.ex
  refine (greset p F q.b q.t q.c ea en ec L b t c w hL (by rw [hq]; exact h.ok)).mono ?_
  rintro x w' ⟨hv, hL', hu⟩
  exact ⟨hv, GL.mk' hL' rfl ⟨trivial, hb, Nat.zero_le _, by simp⟩, Ft.of_upd hu hL.fp⟩
end
theorem qnew (b t c : Int) (a : Option Addr) (n cp : Nat) (L0 : List (En × List UInt8)) (w : World) (h : Ents w a n cp L0) (hb : 0 ≤ b ∧ b ≤ 4294967296) (hn : n ≤ 100) :
    Calls Try.prog 10 #[.int .i64 b, .int .i64 t, .int .i64 c, .slice a n cp] w fun x w' => ∃ p F, x = .returned (.pointer (some ⟨p, 0, none⟩)) ∧ GL ((⟨b, t, c, []⟩ : LS).apps (L0.map pe)) w' p F ∧ ((⟨b, t, c, []⟩ : LS).apps (L0.map pe)).l.length ≤ n ∧ ((⟨b, t, c, []⟩ : LS).apps (L0.map pe)).b = b ∧ (∀ k, F k → w.heap.size ≤ k) ∧ Below w.heap.size w w' := by
  refine (gnew b t c a n cp L0 w h hb hn).mono ?_
  rintro x w' ⟨p, F, ea, en, ec, L, rfl, hL, heq, ho, hle, hF, hbw⟩
  have heq2 : lsOf b t c L = (⟨b, t, c, []⟩ : LS).apps (L0.map pe) := heq
  rw [← heq2]
  exact ⟨p, F, rfl, GL.mk' hL rfl ho, by show (L.map pe).length ≤ n; rw [List.length_map]; exact hle, rfl, hF, hbw⟩
end Go.Proofs.Ytnlbdgaleibgcaa.W
