/- LAYER 11 (record): what Apply makes, plain; Apply of both, in one contract each. -/
import Derived.Test.YtbcaphkbjeejhaaRcAq
import Derived.Test.YtbcaphkbjeejhaaRcU1
import Derived.Test.YtbcaphkbjeejhaaRcU2
import Derived.Test.YtbcaphkbjeejhaaRcU3
import Derived.Test.YtbcaphkbjeejhaaRcU4
import Derived.Test.YtbcaphkbjeejhaaRcEq
set_option linter.unusedSimpArgs false
set_option linter.unusedVariables false
namespace Go.Proofs.Ytbcaphkbjeejhaa.W
open Go Go.ChangeShapes Go.WideShapes Go.ChangeAt Go.RowKit

def Ps.last (q : Ps) : Int := (q.l.getLast?.map (·.1)).getD q.b
def Ps.foll (q : Ps) (r : Rc) : Bool :=
  if r.k = 1 then decide (q.b ≤ r.i) else if r.k = 3 then (r.e.ix - 1 == q.last) else if r.k = 4 then decide (q.b < r.i) else true
/-- what the record makes -/
def Ps.go (q : Ps) (r : Rc) (l p : List UInt8) : Ps :=
  if r.k = 1 then { q with b := r.i, bt := r.t, f := r.f, d := p, l := q.l.filter (fun x => !decide (x.1 ≤ r.i)) }
  else if r.k = 2 then { q with t := r.t, v := r.v }
  else if r.k = 3 then { q with l := q.l ++ [(r.e.ix, r.e.tm, r.e.kd, l)] }
  else { q with l := q.l.filter (fun x => !decide (r.i ≤ x.1)) }
/-- what Apply answers -/
def Ps.app (q : Ps) (r : Rc) (l p : List UInt8) : Ps × Int :=
  if chkR r l p ≠ 0 then (q, 1) else if q.foll r = false then (q, 10) else (q.go r l p, 0)

theorem lastV_ps (s : Sv) (d : List UInt8) (L : List (En × List UInt8)) : lastV s.b L = (s.ps d L).last := by
  unfold lastV Ps.last Sv.ps
  dsimp only
  rcases L with _ | ⟨x, L⟩
  · rfl
  · have h0 : ¬ (x :: L).length = 0 := by simp
    rw [if_neg h0, List.getLast?_map, List.getLast?_eq_getElem?]
    have hlt : (x :: L).length - 1 < (x :: L).length := by simp
    rw [List.getD_eq_getElem?_getD, List.getElem?_eq_getElem hlt]
    rfl
theorem follV_ps (s : Sv) (d : List UInt8) (L : List (En × List UInt8)) (r : Rc) : follV s.b L r = (s.ps d L).foll r := by
  unfold follV Ps.foll
  rw [lastV_ps s d L]
  rfl
theorem filter_pe' (f : Int → Bool) : ∀ M : List (En × List UInt8), (M.filter (fun p => f p.1.ix)).map pe = (M.map pe).filter (fun q => f q.1)
  | [] => rfl
  | x :: M => by
    have ih := filter_pe' f M
    by_cases hx : f x.1.ix = true
    · rw [List.filter_cons_of_pos (by simpa using hx), List.map_cons, List.map_cons, List.filter_cons_of_pos (by simpa [pe] using hx), ih]
    · rw [List.filter_cons_of_neg (by simpa using hx), List.map_cons, List.filter_cons_of_neg (by simpa [pe] using hx), ih]
theorem chkR_kind {r : Rc} {l p : List UInt8} (h : chkR r l p = 0) : (r.k = 1 ∨ r.k = 2 ∨ r.k = 3 ∨ r.k = 4) ∧ (r.k = 3 → (1 ≤ r.e.ix ∧ r.e.ix ≤ 2147483648) ∧ r.e.n ≤ 4096) ∧ (r.k = 1 → r.n ≤ 131072 ∧ 0 ≤ r.i ∧ r.i ≤ 2147483648) := by
  unfold chkR at h
  have hf : fitsR r = true := by
    cases hq : fitsR r
    · rw [hq] at h; simp at h
    · rfl
  unfold fitsR at hf
  split at hf
  · rename_i h1
    unfold inV at hf; simp at hf
    exact ⟨.inl h1, fun h3 => by omega, fun _ => by omega⟩
  split at hf
  · rename_i h1
    exact ⟨.inr (.inl h1), fun h3 => by omega, fun _ => by omega⟩
  split at hf
  · rename_i h1
    unfold enOk inV at hf; simp at hf
    exact ⟨.inr (.inr (.inl h1)), fun _ => by omega, fun _ => by omega⟩
  split at hf
  · rename_i h1
    exact ⟨.inr (.inr (.inr h1)), fun _ => by omega, fun _ => by omega⟩
  · cases hf
theorem chkR_zero (r : Rc) (l p : List UInt8) : chkR r l p = 0 ∨ chkR r l p = 1 := by
  unfold chkR
  split
  · exact .inl rfl
  · exact .inr rfl
theorem SvO.f {w : World} {base : Nat} {s : Sv} {d : List UInt8} {L : List (En × List UInt8)} (h : SvO w base s d L) : Ents w s.ea s.en s.ec L := by
  obtain ⟨g, R, he, -, hrow, hR, hle, ht⟩ := h.row
  have hm : s.ec ≤ maxLen := by have := h.cap; unfold maxLen; omega
  have hl : L.length = s.en := by
    have := congrArg List.length ht
    simp [hR] at this; omega
  rw [he]
  exact EnO.ents ⟨by rw [List.length_map]; exact hl, .inr ⟨g, R, rfl, hrow, hR, hle, hm, ht⟩⟩ rfl h.fit
theorem SvO.fresh {w : World} {base : Nat} {s s0 : Sv} {d : List UInt8} {L : List (En × List UInt8)} (h : SvO w base s d L) : ∀ b off, s.ea = some ⟨b, off, none⟩ → base ≤ b ∨ s.ea = s0.ea := by
  obtain ⟨g, R, he, hg, -⟩ := h.row
  intro b off e
  rw [he] at e
  have : g = b := congrArg Addr.block (Option.some.inj e)
  exact .inl (by omega)
/-- what Apply promises -/
abbrev AppP (f : FuncId) : Prop := ∀ (s : Sv) (d : List UInt8) (L : List (En × List UInt8)) (r : Rc) (l p : List UInt8) (w : World), SvF w s d L → RcF w r l p → s.n ≤ 140737488355000 → s.en ≤ 1000000 → (∀ p ∈ L, p.1.n ≤ 140737488355000) →
    Calls Try.prog f #[.agg s.cells.toArray, .agg r.cells.toArray] w fun x w' => ∃ s' d' L', x = .returned (.tuple #[.agg (Sv.cells s').toArray, .int .i64 ((s.ps d L).app r l p).2]) ∧ SvF w' s' d' L' ∧ s'.ps d' L' = ((s.ps d L).app r l p).1 ∧ (∀ b off, s'.ea = some ⟨b, off, none⟩ → w.heap.size ≤ b ∨ s'.ea = s.ea) ∧ Below w.heap.size w w'
theorem ps_ext {a b : Ps} (h1 : a.t = b.t) (h2 : a.v = b.v) (h3 : a.b = b.b) (h4 : a.bt = b.bt) (h5 : a.f = b.f) (h6 : a.d = b.d) (h7 : a.l = b.l) : a = b := by
  cases a; cases b; simp_all
theorem rapply : AppP 12 := by
  intro s d L r l p w h hr hsn hsl hbig
  unfold Ps.app
  rcases chkR_zero r l p with hck | hck
  · obtain ⟨hk, h3, h1⟩ := chkR_kind hck
    rw [if_neg (by rw [hck]; decide), ← follV_ps]
    rcases hfo : follV s.b L r with _ | _
    · rw [if_pos rfl]
      refine (rapp_log s d L r l p w h hr hsn hsl hbig hck (fun h => (h3 h).1) hk hfo).mono ?_
      rintro x w' ⟨s', L', rfl, hO, e1, e2, e3, e4, e5, -, -, hL, hb⟩
      exact ⟨s', d, L', rfl, ⟨by rw [e1]; exact h.t, by rw [e2]; exact h.v, by rw [e3]; exact h.b, by rw [e4]; exact h.bt, by rw [e5]; exact h.f, hO.rd, hO.f⟩, ps_ext e1 e2 e3 e4 e5 rfl hL, hO.fresh, hb⟩
    · rw [if_neg (by decide)]
      unfold Ps.go
      rcases hk with hk | hk | hk | hk
      · rw [if_pos hk]
        refine (rapp1 s d L r l p w h hr hsn hsl hbig hck (fun h => (h3 h).1) hk (by have := (h1 hk).1; omega) hfo).mono ?_
        rintro x w' ⟨s', L', rfl, hO, e1, e2, e3, e4, e5, -, hL, hb⟩
        exact ⟨s', p, L', rfl, ⟨by rw [e1]; exact h.t, by rw [e2]; exact h.v, by rw [e3]; exact hr.i, by rw [e4]; exact hr.t, by rw [e5]; exact hr.f, hO.rd, hO.f⟩, ps_ext e1 e2 e3 e4 e5 rfl (hL.trans (filter_pe' (fun x => !decide (x ≤ r.i)) L)), hO.fresh, hb⟩
      · rw [if_neg (by omega), if_pos hk]
        refine (rapp2 s d L r l p w h hr hsn hsl hbig hck (fun h => (h3 h).1) hk hfo).mono ?_
        rintro x w' ⟨s', L', rfl, hO, e1, e2, e3, e4, e5, -, -, hL, hb⟩
        exact ⟨s', d, L', rfl, ⟨by rw [e1]; exact hr.t, by rw [e2]; exact hr.v, by rw [e3]; exact h.b, by rw [e4]; exact h.bt, by rw [e5]; exact h.f, hO.rd, hO.f⟩, ps_ext e1 e2 e3 e4 e5 rfl hL, hO.fresh, hb⟩
      · rw [if_neg (by omega), if_neg (by omega), if_pos hk]
        refine (rapp3 s d L r l p w h hr hsn hsl hbig hck (fun h => (h3 h).1) hk (by have := (h3 hk).2; omega) hfo).mono ?_
        rintro x w' ⟨s', L', rfl, hrd, e1, e2, e3, e4, e5, -, -, hE, hL, hfr, hb⟩
        exact ⟨s', d, L', rfl, ⟨by rw [e1]; exact h.t, by rw [e2]; exact h.v, by rw [e3]; exact h.b, by rw [e4]; exact h.bt, by rw [e5]; exact h.f, hrd, hE⟩, ps_ext e1 e2 e3 e4 e5 rfl hL, (fun b off e => .inl (hfr b off e)), hb⟩
      · rw [if_neg (by omega), if_neg (by omega), if_neg (by omega)]
        refine (rapp4 s d L r l p w h hr hsn hsl hbig hck (fun h => (h3 h).1) hk hfo).mono ?_
        rintro x w' ⟨s', L', rfl, hO, e1, e2, e3, e4, e5, -, hL, hb⟩
        exact ⟨s', d, L', rfl, ⟨by rw [e1]; exact h.t, by rw [e2]; exact h.v, by rw [e3]; exact h.b, by rw [e4]; exact h.bt, by rw [e5]; exact h.f, hO.rd, hO.f⟩, ps_ext e1 e2 e3 e4 e5 rfl (hL.trans (filter_pe' (fun x => !decide (r.i ≤ x)) L)), hO.fresh, hb⟩
  · rw [if_pos (by rw [hck]; decide)]
    refine (rapp_bad s d L r l p w h hr hsn hsl hbig hck).mono ?_
    rintro x w' ⟨s', L', rfl, hO, e1, e2, e3, e4, e5, -, -, hL, hb⟩
    exact ⟨s', d, L', rfl, ⟨by rw [e1]; exact h.t, by rw [e2]; exact h.v, by rw [e3]; exact h.b, by rw [e4]; exact h.bt, by rw [e5]; exact h.f, hO.rd, hO.f⟩, ps_ext e1 e2 e3 e4 e5 rfl hL, hO.fresh, hb⟩
theorem uapply : AppP 13 := by
  intro s d L r l p w h hr hsn hsl hbig
  have hcu := chk_eq r l p hr.rd.hlen
  unfold Ps.app
  obtain ⟨k, rt, rv, ⟨ix, tm, kd, xa, xn, xc⟩, ri, rf, ya, yn, yc⟩ := r
  rcases chkR_zero ⟨k, rt, rv, ⟨ix, tm, kd, xa, xn, xc⟩, ri, rf, ya, yn, yc⟩ l p with hck | hck
  · obtain ⟨hk, h3, h1⟩ := chkR_kind hck
    rw [if_neg (by rw [hck]; decide), ← follV_ps]
    rw [hck] at hcu
    dsimp only at hk h3 h1
    rcases hk with rfl | rfl | rfl | rfl
    · have hf : follV s.b L ⟨1, rt, rv, ⟨ix, tm, kd, xa, xn, xc⟩, ri, rf, ya, yn, yc⟩ = decide (s.b ≤ ri) := rfl
      rw [hf]
      by_cases hq : s.b ≤ ri
      · rw [decide_eq_true hq, if_neg (by decide)]
        refine (uapp1 s d L rt rv ix tm kd ri rf xa ya xn xc yn yc l p w h hr hsl hcu hq (by have := (h1 rfl).1; omega)).mono ?_
        rintro x w' ⟨s', L', rfl, hrd, hE, e1, e2, e3, e4, e5, -, hL, hfr, hb⟩
        exact ⟨s', p, L', rfl, ⟨by rw [e1]; exact h.t, by rw [e2]; exact h.v, by rw [e3]; exact hr.i, by rw [e4]; exact hr.t, by rw [e5]; exact hr.f, hrd, hE⟩, ps_ext e1 e2 e3 e4 e5 rfl (hL.trans (filter_pe' (fun x => !decide (x ≤ ri)) L)), (fun b off e => .inl (hfr b off e)), hb⟩
      · rw [decide_eq_false hq, if_pos rfl]
        refine (uapp_log1 s d L rt rv ix tm kd ri rf xa ya xn xc yn yc l p w h hr hsl hcu (by omega)).mono ?_
        rintro x w' ⟨rfl, hb⟩
        exact ⟨s, d, L, rfl, h.mono hb, rfl, (fun _ _ _ => .inr rfl), hb⟩
    · have hf : follV s.b L ⟨2, rt, rv, ⟨ix, tm, kd, xa, xn, xc⟩, ri, rf, ya, yn, yc⟩ = true := rfl
      rw [hf, if_neg (by decide)]
      refine (uapp2 s d L rt rv ix tm kd ri rf xa ya xn xc yn yc l p w h hr hsl hcu).mono ?_
      rintro x w' ⟨s', L', rfl, hrd, hE, e1, e2, e3, e4, e5, -, hL, hfr, hb⟩
      exact ⟨s', d, L', rfl, ⟨by rw [e1]; exact hr.t, by rw [e2]; exact hr.v, by rw [e3]; exact h.b, by rw [e4]; exact h.bt, by rw [e5]; exact h.f, hrd, hE⟩, ps_ext e1 e2 e3 e4 e5 rfl (hL.trans (by rw [List.filter_eq_self.2 (fun _ _ => rfl)]; rfl)), (fun b off e => .inl (hfr b off e)), hb⟩
    · have hf : follV s.b L ⟨3, rt, rv, ⟨ix, tm, kd, xa, xn, xc⟩, ri, rf, ya, yn, yc⟩ = (ix - 1 == lastV s.b L) := rfl
      rw [hf]
      by_cases hq : ix - 1 = lastV s.b L
      · rw [show (ix - 1 == lastV s.b L) = true by simpa using hq, if_neg (by decide)]
        refine (uapp3 s d L rt rv ix tm kd ri rf xa ya xn xc yn yc l p w h hr hsl hcu (h3 rfl).1 (by have := (h3 rfl).2; omega) hq).mono ?_
        rintro x w' ⟨s', L', rfl, hrd, hE, e1, e2, e3, e4, e5, -, hL, hfr, hb⟩
        exact ⟨s', d, L', rfl, ⟨by rw [e1]; exact h.t, by rw [e2]; exact h.v, by rw [e3]; exact h.b, by rw [e4]; exact h.bt, by rw [e5]; exact h.f, hrd, hE⟩, ps_ext e1 e2 e3 e4 e5 rfl hL, (fun b off e => .inl (hfr b off e)), hb⟩
      · rw [show (ix - 1 == lastV s.b L) = false by simpa using hq, if_pos rfl]
        refine (uapp_log3 s d L rt rv ix tm kd ri rf xa ya xn xc yn yc l p w h hr hsl hcu (h3 rfl).1 hq).mono ?_
        rintro x w' ⟨rfl, hb⟩
        exact ⟨s, d, L, rfl, h.mono hb, rfl, (fun _ _ _ => .inr rfl), hb⟩
    · have hf : follV s.b L ⟨4, rt, rv, ⟨ix, tm, kd, xa, xn, xc⟩, ri, rf, ya, yn, yc⟩ = decide (s.b < ri) := rfl
      rw [hf]
      by_cases hq : s.b < ri
      · rw [decide_eq_true hq, if_neg (by decide)]
        refine (uapp4 s d L rt rv ix tm kd ri rf xa ya xn xc yn yc l p w h hr hsl hcu hq).mono ?_
        rintro x w' ⟨s', L', rfl, hrd, hE, e1, e2, e3, e4, e5, -, hL, hfr, hb⟩
        exact ⟨s', d, L', rfl, ⟨by rw [e1]; exact h.t, by rw [e2]; exact h.v, by rw [e3]; exact h.b, by rw [e4]; exact h.bt, by rw [e5]; exact h.f, hrd, hE⟩, ps_ext e1 e2 e3 e4 e5 rfl (hL.trans (filter_pe' (fun x => !decide (ri ≤ x)) L)), (fun b off e => .inl (hfr b off e)), hb⟩
      · rw [decide_eq_false hq, if_pos rfl]
        refine (uapp_log4 s d L rt rv ix tm kd ri rf xa ya xn xc yn yc l p w h hr hsl hcu (by omega)).mono ?_
        rintro x w' ⟨rfl, hb⟩
        exact ⟨s, d, L, rfl, h.mono hb, rfl, (fun _ _ _ => .inr rfl), hb⟩
  · rw [if_pos (by rw [hck]; decide)]
    rw [hck] at hcu
    refine (uapp_bad s d L k rt rv ix tm kd ri rf xa ya xn xc yn yc l p w h hr hsl hcu).mono ?_
    rintro x w' ⟨rfl, hb⟩
    exact ⟨s, d, L, rfl, h.mono hb, rfl, (fun _ _ _ => .inr rfl), hb⟩
end Go.Proofs.Ytbcaphkbjeejhaa.W
