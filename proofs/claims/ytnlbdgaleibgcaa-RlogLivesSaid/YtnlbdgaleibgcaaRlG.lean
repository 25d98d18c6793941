/- LAYER 13 (rlog): drop, Cut of the program. -/
import Derived.Test.YtnlbdgaleibgcaaRlE
import Derived.Test.YtnlbdgaleibgcaaRlF
set_option linter.unusedSimpArgs false
set_option linter.unusedVariables false
namespace Go.Proofs.Ytnlbdgaleibgcaa.W
open Go Go.ChangeShapes Go.WideShapes Go.ChangeAt Go.RowKit

theorem Rd.gw13 {w w' : World} {g : Nat} {t : TypeId} {a : Option Addr} {n c : Nat} {l : List UInt8} {L : List Value} (h : Rd w a n c l) (hq : Row w g t L) (hnb : NB L) (k : Gw g w w') : Rd w' a n c l := h.gw k (fun hn => (h.apart hq (fun x hx => hnb x (by simpa using hx))).resolve_left hn)
theorem filt_pe (f : Int → Bool) : ∀ M : List (En × List UInt8), (M.filter (fun p => f p.1.ix)).map pe = (M.map pe).filter (fun q => f q.1)
  | [] => rfl
  | x :: M => by
    have ih := filt_pe f M
    by_cases hx : f x.1.ix = true
    · rw [List.filter_cons_of_pos (by simpa using hx), List.map_cons, List.map_cons, List.filter_cons_of_pos (by simpa [pe] using hx), ih]
    · rw [List.filter_cons_of_neg (by simpa using hx), List.map_cons, List.filter_cons_of_neg (by simpa [pe] using hx), ih]
theorem Ft.of_gw {g : Nat} {F : Nat → Prop} {w w' : World} (h : Gw g w w') (hg : F g) : Ft F w w' := ⟨h.os, h.tape, h.output, h.size, fun k hk hn => h.block k hk (fun e => hn (by rw [e]; exact hg))⟩
set_option maxRecDepth 100000 in
set_option maxHeartbeats 4000000 in
theorem gdrop1 (p : Nat) (F : Nat → Prop) (b t c : Int) (ea : Option Addr) (en ec : Nat) (L : List (En × List UInt8)) (i : Int) (rb : Nat) (w : World) (h : LG w p F b t c ea en ec L) (hn : en ≤ 1000000) (hrb : Row w rb 3 [.int .i64 i]) (hrF : ¬ F rb) :
    Calls Try.prog 46 #[.pointer (some ⟨p, 0, none⟩), .func (.func 48) #[] #[.pointer (some ⟨rb, 0, none⟩)]] w fun x w' => (∃ v, x = .returned v) ∧ ∃ en' L', LG w' p F b t c ea en' ec L' ∧ en' ≤ en ∧ L'.map pe = (L.map pe).filter (fun q => !decide (q.1 ≤ i)) ∧ Ft F w w' := by
  have H := Lib.hid h
  have HL := Lib.hid h.len
  have HRB := Lib.hid hrb
  obtain ⟨c0, c1, c2, c3, c4⟩ := h.row.c5
  rcases h.es.2 with ⟨rfl, rfl, rfl⟩ | ⟨g, R, rfl, hrow, hR, hle, hm, ht⟩
  · have hL0 : L = [] := List.eq_nil_of_length_eq_zero h.len
    subst hL0
    have hfz := fun j => h.row.frozen j
    clear h hrb
    go_enter Try.func46, Try.ntmps46
    go_wp2_with (first | (go_at_call 66; refine (gdelfN1 rb w).mono ?_; rintro x w1 ⟨rfl, rfl⟩))
    first | go_end0 | (refine bodyPost_ret (results_none rfl _ _ _) rfl ?_)
    have hu := Upd.setCell w p 4 (.slice none 0 0)
    exact ⟨⟨_, rfl⟩, 0, [], ⟨H.out.row.setV 4 (.slice none 0 0), EnO.nil _, (fun _ _ e => by cases e), (by simp), (by simp), H.out.fp, fun k hk => by rw [hu.size]; exact H.out.lt k hk⟩, Nat.le_refl _, rfl, Ft.of_upd hu H.out.fp⟩
  · have hgp := h.ne g 0 rfl
    have hrg : rb ≠ g := fun e => hrF (by rw [e]; exact hgp.1)
    have HROW := Lib.hid hrow
    have HRR := Lib.hid hR
    have HT := Lib.hid ht
    clear h hrb hrow hR ht
    go_enter Try.func46, Try.ntmps46
    go_wp2_with (first | (go_at_call 66; refine (gdelf1 i rb g en R w HRB.out HROW.out ec HRR.out hle hn hrg).mono ?_; rintro x w1 ⟨m, R', rfl, hRl, hmn, hRt, hrw, hgw⟩; have HRL := Lib.hid hRl; have HMN := Lib.hid hmn; have HRT := Lib.hid hRt; have G1 := Lib.hid hrw; have W1 := Lib.hid hgw; have P1 := Lib.hid (H.out.row.gw hgw (Ne.symm hgp.2)); clear hRl hmn hRt hrw hgw c0 c1 c2 c3 c4; have f4 := P1.out.frozen 4; obtain ⟨c0, c1, c2, c3, c4⟩ := P1.out.c5))
    first | go_end0 | (refine bodyPost_ret (results_none rfl _ _ _) rfl ?_)
    have hu := Upd.setCell w1 p 4 (.slice (some ⟨g, 0, none⟩) m ec)
    have hfl : (R.take en).filter (fun e => !gp1 i e) = (L.filter (fun q => (fun x => !decide (x ≤ i)) q.1.ix)).map (·.1) := by rw [HT.out, List.filter_map]; rfl
    have hml : (L.filter (fun q => (fun x => !decide (x ≤ i)) q.1.ix)).length = m := by
      have h1 := congrArg List.length HRT.out
      have h2 := HMN.out
      rw [hfl, List.length_map, List.length_take, HRL.out, Nat.min_eq_left (by omega)] at h1
      omega
    refine ⟨⟨_, rfl⟩, m, L.filter (fun q => (fun x => !decide (x ≤ i)) q.1.ix), ⟨P1.out.setV 4 (.slice (some ⟨g, 0, none⟩) m ec), ⟨by rw [List.length_map]; exact hml, .inr ⟨g, R', rfl, G1.out.upd hu hgp.2, HRL.out, Nat.le_trans HMN.out hle, hm, by rw [HRT.out]; exact hfl⟩⟩, (fun x off e => ⟨(H.out.ne x off e).1, (H.out.ne x off e).2⟩), ?_, ?_, H.out.fp, ?_⟩, HMN.out, filt_pe (fun x => !decide (x ≤ i)) L, (Ft.of_gw W1.out hgp.1).trans (Ft.of_upd hu H.out.fp)⟩
    · intro x hx
      have h1 := H.out.fit x (List.mem_filter.1 hx).1
      exact ⟨h1.ix, h1.tm, h1.kd, (h1.rd.gw13 HROW.out (NB_flat _) W1.out).put P1.out (NB_lg _ _ _ _ _ _) hu⟩
    · intro x hx
      exact H.out.fa x (List.mem_filter.1 hx).1
    · intro k hk
      rw [hu.size]
      exact Nat.lt_of_lt_of_le (H.out.lt k hk) W1.out.size
set_option maxRecDepth 100000 in
set_option maxHeartbeats 4000000 in
theorem gdrop2 (p : Nat) (F : Nat → Prop) (b t c : Int) (ea : Option Addr) (en ec : Nat) (L : List (En × List UInt8)) (i : Int) (rb : Nat) (w : World) (h : LG w p F b t c ea en ec L) (hn : en ≤ 1000000) (hrb : Row w rb 3 [.int .i64 i]) (hrF : ¬ F rb) :
    Calls Try.prog 46 #[.pointer (some ⟨p, 0, none⟩), .func (.func 47) #[] #[.pointer (some ⟨rb, 0, none⟩)]] w fun x w' => (∃ v, x = .returned v) ∧ ∃ en' L', LG w' p F b t c ea en' ec L' ∧ en' ≤ en ∧ L'.map pe = (L.map pe).filter (fun q => !decide (i ≤ q.1)) ∧ Ft F w w' := by
  have H := Lib.hid h
  have HL := Lib.hid h.len
  have HRB := Lib.hid hrb
  obtain ⟨c0, c1, c2, c3, c4⟩ := h.row.c5
  rcases h.es.2 with ⟨rfl, rfl, rfl⟩ | ⟨g, R, rfl, hrow, hR, hle, hm, ht⟩
  · have hL0 : L = [] := List.eq_nil_of_length_eq_zero h.len
    subst hL0
    have hfz := fun j => h.row.frozen j
    clear h hrb
    go_enter Try.func46, Try.ntmps46
    go_wp2_with (first | (go_at_call 66; refine (gdelfN2 rb w).mono ?_; rintro x w1 ⟨rfl, rfl⟩))
    first | go_end0 | (refine bodyPost_ret (results_none rfl _ _ _) rfl ?_)
    have hu := Upd.setCell w p 4 (.slice none 0 0)
    exact ⟨⟨_, rfl⟩, 0, [], ⟨H.out.row.setV 4 (.slice none 0 0), EnO.nil _, (fun _ _ e => by cases e), (by simp), (by simp), H.out.fp, fun k hk => by rw [hu.size]; exact H.out.lt k hk⟩, Nat.le_refl _, rfl, Ft.of_upd hu H.out.fp⟩
  · have hgp := h.ne g 0 rfl
    have hrg : rb ≠ g := fun e => hrF (by rw [e]; exact hgp.1)
    have HROW := Lib.hid hrow
    have HRR := Lib.hid hR
    have HT := Lib.hid ht
    clear h hrb hrow hR ht
    go_enter Try.func46, Try.ntmps46
    go_wp2_with (first | (go_at_call 66; refine (gdelf2 i rb g en R w HRB.out HROW.out ec HRR.out hle hn hrg).mono ?_; rintro x w1 ⟨m, R', rfl, hRl, hmn, hRt, hrw, hgw⟩; have HRL := Lib.hid hRl; have HMN := Lib.hid hmn; have HRT := Lib.hid hRt; have G1 := Lib.hid hrw; have W1 := Lib.hid hgw; have P1 := Lib.hid (H.out.row.gw hgw (Ne.symm hgp.2)); clear hRl hmn hRt hrw hgw c0 c1 c2 c3 c4; have f4 := P1.out.frozen 4; obtain ⟨c0, c1, c2, c3, c4⟩ := P1.out.c5))
    first | go_end0 | (refine bodyPost_ret (results_none rfl _ _ _) rfl ?_)
    have hu := Upd.setCell w1 p 4 (.slice (some ⟨g, 0, none⟩) m ec)
    have hfl : (R.take en).filter (fun e => !gp2 i e) = (L.filter (fun q => (fun x => !decide (i ≤ x)) q.1.ix)).map (·.1) := by rw [HT.out, List.filter_map]; rfl
    have hml : (L.filter (fun q => (fun x => !decide (i ≤ x)) q.1.ix)).length = m := by
      have h1 := congrArg List.length HRT.out
      have h2 := HMN.out
      rw [hfl, List.length_map, List.length_take, HRL.out, Nat.min_eq_left (by omega)] at h1
      omega
    refine ⟨⟨_, rfl⟩, m, L.filter (fun q => (fun x => !decide (i ≤ x)) q.1.ix), ⟨P1.out.setV 4 (.slice (some ⟨g, 0, none⟩) m ec), ⟨by rw [List.length_map]; exact hml, .inr ⟨g, R', rfl, G1.out.upd hu hgp.2, HRL.out, Nat.le_trans HMN.out hle, hm, by rw [HRT.out]; exact hfl⟩⟩, (fun x off e => ⟨(H.out.ne x off e).1, (H.out.ne x off e).2⟩), ?_, ?_, H.out.fp, ?_⟩, HMN.out, filt_pe (fun x => !decide (i ≤ x)) L, (Ft.of_gw W1.out hgp.1).trans (Ft.of_upd hu H.out.fp)⟩
    · intro x hx
      have h1 := H.out.fit x (List.mem_filter.1 hx).1
      exact ⟨h1.ix, h1.tm, h1.kd, (h1.rd.gw13 HROW.out (NB_flat _) W1.out).put P1.out (NB_lg _ _ _ _ _ _) hu⟩
    · intro x hx
      exact H.out.fa x (List.mem_filter.1 hx).1
    · intro k hk
      rw [hu.size]
      exact Nat.lt_of_lt_of_le (H.out.lt k hk) W1.out.size
/-- what Cut makes -/
def LS.cut (q : LS) (i : Int) : LS × Int := if i ≤ q.b then (q, 10) else ({ q with l := q.l.filter (fun x => !decide (i ≤ x.1)) }, 0)
theorem rise_gt : ∀ (l : List Pe) (b : Int), rise b l → ∀ x ∈ l, b < x.1
  | [], _, _, x, hx => by cases hx
  | y :: l, b, h, x, hx => by
    rcases List.mem_cons.1 hx with rfl | hx
    · have := h.1; omega
    · have := rise_gt l (b + 1) h.2 x hx; omega
theorem rise_cut : ∀ (l : List Pe) (b i : Int), rise b l → b < i → rise b (l.filter (fun x => !decide (i ≤ x.1))) ∧ l.filter (fun x => !decide (i ≤ x.1)) = l.take (i - b - 1).toNat
  | [], _, _, _, _ => ⟨trivial, by simp⟩
  | y :: l, b, i, h, hi => by
    by_cases hy : i ≤ y.1
    · have h1 : (y :: l).filter (fun x => !decide (i ≤ x.1)) = [] := by
        rw [List.filter_eq_nil_iff]
        intro x hx
        have hx2 : i ≤ x.1 := by
          rcases List.mem_cons.1 hx with rfl | hx
          · exact hy
          · have := rise_gt l (b + 1) h.2 x hx
            have := h.1; omega
        simp [hx2]
      rw [h1]
      have h2 : (i - b - 1).toNat = 0 := by have := h.1; omega
      rw [h2]; exact ⟨trivial, rfl⟩
    · obtain ⟨h3, h4⟩ := rise_cut l (b + 1) i h.2 (by have := h.1; omega)
      rw [List.filter_cons_of_pos (by simp [hy])]
      refine ⟨⟨h.1, h3⟩, ?_⟩
      have h2 : (i - b - 1).toNat = (i - (b + 1) - 1).toNat + 1 := by have := h.1; omega
      rw [h4, h2, List.take_succ_cons]
theorem LOK.cut {q : LS} {i : Int} (h : LOK q) : LOK (q.cut i).1 := by
  unfold LS.cut
  split
  · exact h
  · exact ⟨(rise_cut q.l q.b i h.r (by omega)).1, h.b, Nat.le_trans (List.length_filter_le _ _) h.n, fun x hx => h.x x (List.mem_filter.1 hx).1⟩
set_option maxRecDepth 100000 in
set_option maxHeartbeats 8000000 in
theorem gcut (p : Nat) (F : Nat → Prop) (b t c : Int) (ea : Option Addr) (en ec : Nat) (L : List (En × List UInt8)) (i : Int) (w : World) (h : LG w p F b t c ea en ec L) (ho : LOK (lsOf b t c L)) :
    Calls Try.prog 16 #[.pointer (some ⟨p, 0, none⟩), .int .i64 i] w fun x w' => ∃ en' L', x = .returned (.int .i64 ((lsOf b t c L).cut i).2) ∧ LG w' p F b t c ea en' ec L' ∧ lsOf b t c L' = ((lsOf b t c L).cut i).1 ∧ Ft F w w' := by
  have H := Lib.hid h
  have HO := Lib.hid ho
  have hn : en ≤ 1000000 := by
    have h1 := ho.n
    have h2 := h.len
    rw [show (lsOf b t c L).l.length = en by rw [← h2]; simp [lsOf]] at h1
    omega
  unfold LS.cut
  rw [show (lsOf b t c L).b = b from rfl]
  clear h ho
  by_cases hi : i ≤ b
  · rw [if_pos hi]
    go_enter Try.func16, Try.ntmps16
    go_wp2_with (first
      | (with_reducible refine box_cell (o := ⟨some 3, _, _, _, _, _⟩) rfl _ _ rfl (.int .i64 i) rfl rfl ?_; intro w1 hr1 hb1 hz1; have R1 := Lib.hid hr1; have B1 := Lib.hid hb1; have d0 := R1.out.k0; clear hr1 hb1 hz1)
      | (go_at_call 41; refine (gready p F b t c ea en ec L w1 (H.out.mono B1.out) HO.out).mono ?_; rintro x w2 ⟨rfl, rfl⟩; obtain ⟨c0, c1, c2, c3, c4⟩ := (H.out.mono B1.out).row.c5))
    go_region
    go_wp2_with fail
    go_ret
    have hbd := B1.out.trans ((Below.refl w1.heap.size w1).drew.mono B1.out.size)
    exact ⟨en, L, rfl, H.out.mono hbd, rfl, Ft.of_below hbd⟩
  · rw [if_neg hi]
    go_enter Try.func16, Try.ntmps16
    go_wp2_with (first
      | (with_reducible refine box_cell (o := ⟨some 3, _, _, _, _, _⟩) rfl _ _ rfl (.int .i64 i) rfl rfl ?_; intro w1 hr1 hb1 hz1; have R1 := Lib.hid hr1; have B1 := Lib.hid hb1; have d0 := R1.out.k0; clear hr1 hb1 hz1)
      | (go_at_call 41; refine (gready p F b t c ea en ec L w1 (H.out.mono B1.out) HO.out).mono ?_; rintro x w2 ⟨rfl, rfl⟩; obtain ⟨c0, c1, c2, c3, c4⟩ := (H.out.mono B1.out).row.c5))
    go_region
    have B2 := Lib.hid ((Below.refl w1.heap.size w1).drew)
    obtain ⟨w2, hw2⟩ : ∃ x, w1.drew = x := ⟨_, rfl⟩
    rw [hw2] at B2 ⊢
    clear hw2 c0 c1 c2 c3 c4 d0
    have R2 := Lib.hid (R1.out.below B2.out R1.out.lt)
    have H2 := Lib.hid (H.out.mono (B1.out.trans (B2.out.mono B1.out.size)))
    go_wp2_with (first
      | (go_at_call 46; refine (gdrop2 p F b t c ea en ec L i w.heap.size w2 H2.out hn R2.out (fun hf => Nat.lt_irrefl _ (H.out.lt _ hf))).mono ?_; rintro x w3 ⟨⟨v, rfl⟩, en', L', hL, hle, hpe, hft⟩; have L3 := Lib.hid hL; have PE3 := Lib.hid hpe; have FT3 := Lib.hid hft; clear hL hle hpe hft))
    go_ret
    exact ⟨en', L', rfl, L3.out, by unfold lsOf; rw [PE3.out], (Ft.of_below (B1.out.trans (B2.out.mono B1.out.size))).trans FT3.out⟩
end Go.Proofs.Ytnlbdgaleibgcaa.W
