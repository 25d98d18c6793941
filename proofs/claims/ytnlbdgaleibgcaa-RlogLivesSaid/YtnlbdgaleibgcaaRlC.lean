/- LAYER 13 (rlog): a conf entry's data, of both; confIn; copied of both. -/
import Derived.Test.YtnlbdgaleibgcaaRlO
import Derived.Test.YtnlbdgaleibgcaaPackR5
import Derived.Test.YtnlbdgaleibgcaaPackR4b
import Derived.Test.YtnlbdgaleibgcaaPackW
set_option linter.unusedSimpArgs false
set_option linter.unusedVariables false
namespace Go.Proofs.Ytnlbdgaleibgcaa.W
open Go Go.ChangeShapes Go.WideShapes Go.ChangeAt Go.RowKit
open Go.Proofs.Ytnlbdgaleibgcaa.P (enc dec)

/-- the members that data say -/
def confV (l : List UInt8) : Int := if endV (numR 127 l 0).2.1 (numR 127 l 0).2.2 = 0 then ((numR 127 l 0).1 : Int) else 0
set_option maxRecDepth 100000 in
set_option maxHeartbeats 4000000 in
theorem gconfOf (a : Option Addr) (n c : Nat) (l : List UInt8) (w : World) (h : Rd w a n c l) (hm : n ≤ 140737488355000) : Calls Try.prog 25 #[.slice a n c] w fun x w' => x = .returned (.int .i64 (confV l)) ∧ Below w.heap.size w w' := by
  have H := Lib.hid h
  obtain ⟨q, hq⟩ : ∃ q, numR 127 l 0 = q := ⟨_, rfl⟩
  obtain ⟨ev, hev⟩ : ∃ e, endV q.2.1 q.2.2 = e := ⟨_, rfl⟩
  have HQ := Lib.hid hq
  have HEV := Lib.hid hev
  unfold confV
  rw [hq, hev]
  clear h hq hev
  by_cases hz : ev = 0
  · rw [if_pos hz]
    have hz1 : (ev == 0) = true := by simpa using hz
    go_enter Try.func25, Try.ntmps25
    go_wp2_with (first
      | (go_at_call 53; refine (popen a n c l w H.out hm).mono ?_; rintro x w1 ⟨p, rfl, hp, hP, hb⟩; have P1 := Lib.hid hP; have PL := Lib.hid hp; have B1 := Lib.hid hb; clear hp hP hb)
      | (go_at_call 54; refine (pnumR p 127 l 0 w1 P1.out).mono ?_; rw [HQ.out]; rintro x w2 ⟨rfl, hP, hu⟩; have P2 := Lib.hid hP; have B2 := Lib.hid (B1.out.trans (hu.below PL.out)); clear hP hu)
      | (go_at_call 55; refine (pend p q.2.1 q.2.2 w2 P2.out).mono ?_; rw [HEV.out]; rintro x w3 ⟨rfl, rfl⟩))
    go_ret
    exact ⟨rfl, B2.out⟩
  · rw [if_neg hz]
    have hz1 : (ev == 0) = false := by simpa using hz
    go_enter Try.func25, Try.ntmps25
    go_wp2_with (first
      | (go_at_call 53; refine (popen a n c l w H.out hm).mono ?_; rintro x w1 ⟨p, rfl, hp, hP, hb⟩; have P1 := Lib.hid hP; have PL := Lib.hid hp; have B1 := Lib.hid hb; clear hp hP hb)
      | (go_at_call 54; refine (pnumR p 127 l 0 w1 P1.out).mono ?_; rw [HQ.out]; rintro x w2 ⟨rfl, hP, hu⟩; have P2 := Lib.hid hP; have B2 := Lib.hid (B1.out.trans (hu.below PL.out)); clear hP hu)
      | (go_at_call 55; refine (pend p q.2.1 q.2.2 w2 P2.out).mono ?_; rw [HEV.out]; rintro x w3 ⟨rfl, rfl⟩))
    go_ret
    exact ⟨rfl, B2.out⟩
set_option maxRecDepth 100000 in
set_option maxHeartbeats 4000000 in
theorem xconfOf (a : Option Addr) (n c : Nat) (l : List UInt8) (w : World) (h : Rd w a n c l) (hm : n ≤ 140737488355000) : Calls Try.prog 29 #[.slice a n c] w fun x w' => x = .returned (.int .i64 (confV l)) ∧ Below w.heap.size w w' := by
  have H := Lib.hid h
  obtain ⟨q, hq⟩ : ∃ q, numR 127 l 0 = q := ⟨_, rfl⟩
  obtain ⟨ev, hev⟩ : ∃ e, endV q.2.1 q.2.2 = e := ⟨_, rfl⟩
  have HQ := Lib.hid hq
  have HEV := Lib.hid hev
  unfold confV
  rw [hq, hev]
  clear h hq hev
  by_cases hz : ev = 0
  · rw [if_pos hz]
    have hz1 : (ev == 0) = true := by simpa using hz
    go_enter Try.func29, Try.ntmps29
    go_wp2_with (first
      | (go_at_call 58; refine (ropen a n c l w H.out hm).mono ?_; rintro x w1 ⟨p, rfl, hp, hP, hb⟩; have P1 := Lib.hid hP; have PL := Lib.hid hp; have B1 := Lib.hid hb; clear hp hP hb)
      | (go_at_call 59; refine (rnumR p 127 l 0 w1 P1.out).mono ?_; rw [HQ.out]; rintro x w2 ⟨rfl, hP, hu⟩; have P2 := Lib.hid hP; have B2 := Lib.hid (B1.out.trans (hu.below PL.out)); clear hP hu)
      | (go_at_call 60; refine (rend p q.2.1 q.2.2 w2 P2.out).mono ?_; rw [HEV.out]; rintro x w3 ⟨rfl, rfl⟩))
    go_ret
    exact ⟨rfl, B2.out⟩
  · rw [if_neg hz]
    have hz1 : (ev == 0) = false := by simpa using hz
    go_enter Try.func29, Try.ntmps29
    go_wp2_with (first
      | (go_at_call 58; refine (ropen a n c l w H.out hm).mono ?_; rintro x w1 ⟨p, rfl, hp, hP, hb⟩; have P1 := Lib.hid hP; have PL := Lib.hid hp; have B1 := Lib.hid hb; clear hp hP hb)
      | (go_at_call 59; refine (rnumR p 127 l 0 w1 P1.out).mono ?_; rw [HQ.out]; rintro x w2 ⟨rfl, hP, hu⟩; have P2 := Lib.hid hP; have B2 := Lib.hid (B1.out.trans (hu.below PL.out)); clear hP hu)
      | (go_at_call 60; refine (rend p q.2.1 q.2.2 w2 P2.out).mono ?_; rw [HEV.out]; rintro x w3 ⟨rfl, rfl⟩))
    go_ret
    exact ⟨rfl, B2.out⟩
set_option maxRecDepth 100000 in
set_option maxHeartbeats 4000000 in
theorem gconfData (n : Int) (w : World) (hn : n ≤ 9223372036854775807) : Calls Try.prog 26 #[.int .i64 n] w fun x w' => ∃ a c, x = .returned (.slice a (enc n.toNat).length c) ∧ Rd w' a (enc n.toNat).length c (enc n.toNat) ∧ Below w.heap.size w w' := by
  have HL := Lib.hid (P.enc_len n.toNat (by omega))
  go_enter Try.func26, Try.ntmps26
  go_wp2_with (first
    | (go_at_call 56; refine (pnum none 0 0 n [] w (Rd_nil _) hn (by decide)).mono ?_; rw [List.nil_append, Nat.zero_add]; rintro x w1 ⟨rfl, hk, hb, hz⟩; have K1 := Lib.hid hk; have B1 := Lib.hid hb; clear hk hb hz))
  go_ret
  exact ⟨_, _, rfl, K1.out.rd (by have := HL.out; omega), B1.out⟩
set_option maxRecDepth 100000 in
set_option maxHeartbeats 4000000 in
theorem xconfData (n : Int) (w : World) (hn : n ≤ 9223372036854775807) : Calls Try.prog 28 #[.int .i64 n] w fun x w' => ∃ a c, x = .returned (.slice a (enc n.toNat).length c) ∧ Rd w' a (enc n.toNat).length c (enc n.toNat) ∧ Below w.heap.size w w' := by
  go_enter Try.func28, Try.ntmps28
  go_wp2_with (first
    | (go_at_call 57; refine (rnum none 0 0 n [] w (Rd_nil _) hn (by decide)).mono ?_; rw [List.nil_append]; rintro x w1 ⟨v, rfl, hf, hb⟩; obtain ⟨ra, rc, hv, hr⟩ := hf.form' _ rfl; subst hv; have R1 := Lib.hid hr; have B1 := Lib.hid hb; clear hf hr hb))
  go_ret
  exact ⟨_, _, rfl, R1.out, B1.out⟩
/-- an entry's members -/
def confIn (x : Pe) : Int := if x.2.2.1 = 2 then confV x.2.2.2 else 0
set_option maxRecDepth 100000 in
set_option maxHeartbeats 4000000 in
theorem gconfIn (e : En) (l : List UInt8) (w : World) (h : Rd w e.a e.n e.c l) (hm : e.n ≤ 140737488355000) : Calls Try.prog 62 #[.agg e.cells.toArray] w fun x w' => x = .returned (.int .i64 (confIn (pe (e, l)))) ∧ Below w.heap.size w w' := by
  obtain ⟨ix, tm, kd, a, n, c⟩ := e
  have H := Lib.hid h
  unfold confIn pe
  dsimp only at H hm ⊢
  clear h
  by_cases hk : kd = 2
  · rw [if_pos hk]
    have hk1 : (kd == 2) = true := by simpa using hk
    have hk2 : (kd != 2) = false := by simpa using hk
    go_enter Try.func62, Try.ntmps62
    go_wp2_with (first
      | (with_reducible refine box_row (o := ⟨some 1, _, _, _, _, _⟩) rfl _ _ rfl (En.cells ⟨ix, tm, kd, a, n, c⟩) rfl ?_; intro w1 hr1 hb1 hz1; have B1 := Lib.hid hb1; obtain ⟨c0, c1, c2, c3⟩ := hr1.q4; clear hr1 hb1 hz1)
      | (go_at_call 25; refine (gconfOf a n c l w1 (H.out.mono B1.out) hm).mono ?_; rintro x w2 ⟨rfl, hb⟩; have B2 := Lib.hid (B1.out.trans (hb.mono B1.out.size)); clear hb c0 c1 c2 c3))
    go_ret
    exact ⟨rfl, B2.out⟩
  · rw [if_neg hk]
    have hk1 : (kd == 2) = false := by simpa using hk
    have hk2 : (kd != 2) = true := by simpa using hk
    go_enter Try.func62, Try.ntmps62
    go_wp2_with (first
      | (with_reducible refine box_row (o := ⟨some 1, _, _, _, _, _⟩) rfl _ _ rfl (En.cells ⟨ix, tm, kd, a, n, c⟩) rfl ?_; intro w1 hr1 hb1 hz1; have B1 := Lib.hid hb1; obtain ⟨c0, c1, c2, c3⟩ := hr1.q4; clear hr1 hb1 hz1))
    go_ret
    exact ⟨rfl, B1.out⟩
theorem Fr.form3 {w : World} {base : Nat} {v : Value} {l : List UInt8} (h : Fr w base v l) (n : Nat) (hn : l.length = n) : ∃ a cap, v = .slice a n cap ∧ Rd w a n cap l ∧ (∀ k off, a = some ⟨k, off, none⟩ → base ≤ k) := by
  subst hn
  obtain ⟨a, cap, hv, hr, ha⟩ := h.form
  refine ⟨a, cap, hv, hr, fun k off e => ?_⟩
  rcases ha with rfl | ⟨g, rfl, hg, -⟩
  · cases e
  · have : g = k := congrArg Addr.block (Option.some.inj e)
    omega
set_option maxRecDepth 100000 in
set_option maxHeartbeats 4000000 in
theorem gcopied (e : En) (l : List UInt8) (w : World) (h : Rd w e.a e.n e.c l) (hmax : e.n ≤ 140737488355000) : Calls Try.prog 43 #[.agg e.cells.toArray] w fun x w' => ∃ a c, x = .returned (.agg (En.cells ⟨e.ix, e.tm, e.kd, a, e.n, c⟩).toArray) ∧ Rd w' a e.n c l ∧ (∀ k off, a = some ⟨k, off, none⟩ → w.heap.size ≤ k) ∧ Below w.heap.size w w' := by
  obtain ⟨ix, tm, kd, a, n, c⟩ := e
  have HR := Lib.hid h
  have HN := Lib.hid h.hlen
  have EZ := Lib.hid en_zero
  have ES := Lib.hid en_size
  dsimp only at hmax
  unfold En.cells
  dsimp only
  clear h
  go_enter Try.func43, Try.ntmps43
  go_wp2_with (first
    | (with_reducible refine box_row (o := ⟨some 1, _, _, _, _, _⟩) rfl _ _ rfl [.int .i64 ix, .int .i64 tm, .int .i64 kd, .slice a n c] rfl ?_; intro w1 hr1 hb1 hz1; have E1 := Lib.hid hr1; have B1 := Lib.hid hb1; clear hr1 hb1 hz1)
    | ((with_reducible refine alloc_row (o := ⟨some 2, _, _, _, _, _⟩) rfl _ rfl _ EZ.out ?_); intro w2 hr2 hb2 hz2; have Z2 := Lib.hid hr2; have LT := Lib.hid (show w.heap.size < w1.heap.size from E1.out.lt); have E2 := Lib.hid (E1.out.below hb2 E1.out.lt); have B2 := Lib.hid (B1.out.trans (hb2.mono B1.out.size)); obtain ⟨c0, c1, c2, c3⟩ := E2.out.q4; clear hr2 hb2 hz2)
    | (go_at_call 64; refine (fclone a n c l w2 (HR.out.mono B2.out) hmax).mono ?_; rintro x w3 ⟨v, rfl, hf, hb⟩; obtain ⟨b, c', hv, hr, hfr⟩ := hf.form3 n HN.out; subst hv; have FRX := Lib.hid hfr; have R3 := Lib.hid hr; have E3 := Lib.hid (E2.out.below hb E2.out.lt); have Z3 := Lib.hid (Z2.out.below hb Z2.out.lt); have B3 := Lib.hid (B2.out.trans (hb.mono B2.out.size)); have U4 := Lib.hid (Upd.setCell w3 w.heap.size 3 (.slice b n c')); have E4 := Lib.hid (show Row (w3.setCell ⟨w.heap.size, 3, none⟩ (.slice b n c')) w.heap.size 34 (En.cells ⟨ix, tm, kd, b, n, c'⟩) from E3.out.setV 3 (.slice b n c')); have R4 := Lib.hid (R3.out.put E3.out (NB_en _ _ _ _ _ _) U4.out); have Z4 := Lib.hid (Z3.out.upd U4.out (by have := LT.out; omega)); have B4 := Lib.hid (B3.out.trans (U4.out.below (Nat.le_refl _))); clear hf hr hb hfr c0 c1 c2 c3; have f3 := E3.out.frozen 3; obtain ⟨c0, c1, c2, c3⟩ := E3.out.q4)
    | ((with_reducible refine load_row (o := ⟨some 7, _, _, _, _, _⟩) rfl _ _ rfl w.heap.size ?_ _ (En.cells ⟨ix, tm, kd, b, n, c'⟩) _ E4.out Try.underlying34 rfl ?_ ?_); (focus go_simp); (focus (exact ES.out)))
    | ((with_reducible refine store_row (o := ⟨none, _, _, _, _, _⟩) rfl _ (.tmp 2) _ rfl w1.heap.size (En.cells ⟨ix, tm, kd, b, n, c'⟩) ?_ ?_ 34 _ Z4.out ?_ ?_ ?_ ?_); (focus go_simp); (focus (first | (go_simp; done) | (go_simp; rfl))); (focus (exact ES.out)); (focus rfl); (focus (exact en_one _)); intro w5 hr5 hu5; have E5 := Lib.hid hr5; have R5 := Lib.hid (R4.out.put Z4.out (NB_en _ _ _ _ _ _) hu5); have B5 := Lib.hid (B4.out.trans (hu5.below B1.out.size)); clear hr5 hu5))
  exact bodyPost_ret (results_cell_row rfl _ _ w1.heap.size 34 _ _ _ (by go_simp) E5.out Try.underlying34 rfl ES.out) rfl ⟨b, c', rfl, R5.out, fun k off e => Nat.le_trans B2.out.size (FRX.out k off e), B5.out⟩
set_option maxRecDepth 100000 in
set_option maxHeartbeats 4000000 in
theorem xcopied (e : En) (l : List UInt8) (w : World) (h : Rd w e.a e.n e.c l) (hmax : e.n ≤ 140737488355000) : Calls Try.prog 45 #[.agg e.cells.toArray] w fun x w' => ∃ a c, x = .returned (.agg (En.cells ⟨e.ix, e.tm, e.kd, a, e.n, c⟩).toArray) ∧ Rd w' a e.n c l ∧ (∀ k off, a = some ⟨k, off, none⟩ → w.heap.size ≤ k) ∧ Below w.heap.size w w' := by
  obtain ⟨ix, tm, kd, a, n, c⟩ := e
  have HR := Lib.hid h
  have HN := Lib.hid h.hlen
  have EZ := Lib.hid en_zero
  have ES := Lib.hid en_size
  dsimp only at hmax
  unfold En.cells
  dsimp only
  clear h
  go_enter Try.func45, Try.ntmps45
  go_wp2_with (first
    | (with_reducible refine box_row (o := ⟨some 1, _, _, _, _, _⟩) rfl _ _ rfl [.int .i64 ix, .int .i64 tm, .int .i64 kd, .slice a n c] rfl ?_; intro w1 hr1 hb1 hz1; have E1 := Lib.hid hr1; have B1 := Lib.hid hb1; clear hr1 hb1 hz1)
    | ((with_reducible refine alloc_row (o := ⟨some 2, _, _, _, _, _⟩) rfl _ rfl _ EZ.out ?_); intro w2 hr2 hb2 hz2; have Z2 := Lib.hid hr2; have LT := Lib.hid (show w.heap.size < w1.heap.size from E1.out.lt); have E2 := Lib.hid (E1.out.below hb2 E1.out.lt); have B2 := Lib.hid (B1.out.trans (hb2.mono B1.out.size)); obtain ⟨c0, c1, c2, c3⟩ := E2.out.q4; clear hr2 hb2 hz2)
    | (at_builtin; refine append_rd (o := ⟨some 5, _, _, _, _, _⟩) rfl _ _ rfl w2.heap.size _ [] rfl (Fr.nil _ _) a n c l (by go_simp) (HR.out.mono B2.out) (by simp; omega) (Nat.le_refl _) ?_; intro v w3 hf hb _; rw [List.nil_append] at hf; obtain ⟨b, c', hv, hr, hfr⟩ := hf.form3 n HN.out; subst hv; have FRX := Lib.hid hfr; have R3 := Lib.hid hr; have E3 := Lib.hid (E2.out.below hb E2.out.lt); have Z3 := Lib.hid (Z2.out.below hb Z2.out.lt); have B3 := Lib.hid (B2.out.trans (hb.mono B2.out.size)); have U4 := Lib.hid (Upd.setCell w3 w.heap.size 3 (.slice b n c')); have E4 := Lib.hid (show Row (w3.setCell ⟨w.heap.size, 3, none⟩ (.slice b n c')) w.heap.size 34 (En.cells ⟨ix, tm, kd, b, n, c'⟩) from E3.out.setV 3 (.slice b n c')); have R4 := Lib.hid (R3.out.put E3.out (NB_en _ _ _ _ _ _) U4.out); have Z4 := Lib.hid (Z3.out.upd U4.out (by have := LT.out; omega)); have B4 := Lib.hid (B3.out.trans (U4.out.below (Nat.le_refl _))); clear hf hr hb hfr c0 c1 c2 c3; have f3 := E3.out.frozen 3; obtain ⟨c0, c1, c2, c3⟩ := E3.out.q4)
    | ((with_reducible refine load_row (o := ⟨some 7, _, _, _, _, _⟩) rfl _ _ rfl w.heap.size ?_ _ (En.cells ⟨ix, tm, kd, b, n, c'⟩) _ E4.out Try.underlying34 rfl ?_ ?_); (focus go_simp); (focus (exact ES.out)))
    | ((with_reducible refine store_row (o := ⟨none, _, _, _, _, _⟩) rfl _ (.tmp 2) _ rfl w1.heap.size (En.cells ⟨ix, tm, kd, b, n, c'⟩) ?_ ?_ 34 _ Z4.out ?_ ?_ ?_ ?_); (focus go_simp); (focus (first | (go_simp; done) | (go_simp; rfl))); (focus (exact ES.out)); (focus rfl); (focus (exact en_one _)); intro w5 hr5 hu5; have E5 := Lib.hid hr5; have R5 := Lib.hid (R4.out.put Z4.out (NB_en _ _ _ _ _ _) hu5); have B5 := Lib.hid (B4.out.trans (hu5.below B1.out.size)); clear hr5 hu5))
  exact bodyPost_ret (results_cell_row rfl _ _ w1.heap.size 34 _ _ _ (by go_simp) E5.out Try.underlying34 rfl ES.out) rfl ⟨b, c', rfl, R5.out, fun k off e => Nat.le_trans B2.out.size (FRX.out k off e), B5.out⟩
end Go.Proofs.Ytnlbdgaleibgcaa.W
