/- LAYER 13 (rlog): a log in memory, and what it is, plain. LAYER 13 (rlog): ready, Base, Last, has, place, Term, LastTerm of the program. LAYER 13 (rlog): a conf entry's data, of both; confIn; copied of both. -/
import Derived.Test.YtjkkopbhdeljmaaGreatEnO
import Derived.Test.YtjkkopbhdeljmaaGreatRcEq
import Derived.Test.YtjkkopbhdeljmaaGreatTail
import Derived.Test.YtjkkopbhdeljmaaGreatFoot
import Derived.Test.YtjkkopbhdeljmaaGreatPackR5
import Derived.Test.YtjkkopbhdeljmaaGreatPackR4b
import Derived.Test.YtjkkopbhdeljmaaGreatPackW
set_option linter.unusedSimpArgs false
set_option linter.unusedVariables false
namespace Go.Proofs.YtjkkopbhdeljmaaGreat.W
open Go Go.ChangeShapes Go.WideShapes Go.ChangeAt Go.RowKit

abbrev Pe := Int × Int × Int × List UInt8
/-- a log, plain: its base's number, term, members; its entries -/
structure LS where
  b : Int
  t : Int
  c : Int
  l : List Pe
/-- numbers that rise by one -/
def rise : Int → List Pe → Prop
  | _, [] => True
  | b, x :: l => x.1 = b + 1 ∧ rise (b + 1) l
/-- what every log of the law is -/
structure LOK (q : LS) : Prop where
  r : rise q.b q.l
  b : 0 ≤ q.b ∧ q.b ≤ 4294967296
  n : q.l.length ≤ 200
  x : ∀ x ∈ q.l, x.2.2.2.length ≤ 4096
def LS.last (q : LS) : Int := q.b + q.l.length
def LS.has (q : LS) (i : Int) : Bool := decide (q.b < i) && decide (i ≤ q.last)
/-- the entry of that number -/
def LS.at (q : LS) (i : Int) : Pe := q.l.getD (i - q.b - 1).toNat (0, 0, 0, [])
def LS.term (q : LS) (i : Int) : Int := if i = q.b then q.t else if q.has i = true then (q.at i).2.1 else 0
def LS.termE (q : LS) (i : Int) : Int := if i = q.b then 0 else if q.has i = true then 0 else 6
/-- the program's log in memory: its own blocks are those of F -/
structure LG (w : World) (p : Nat) (F : Nat → Prop) (b t c : Int) (ea : Option Addr) (en ec : Nat) (L : List (En × List UInt8)) : Prop where
  row : Row w p 89 [.bool true, .int .i64 b, .int .i64 t, .int .i64 c, .slice ea en ec]
  es : EnO w ea en ec (L.map (·.1))
  ne : ∀ x off, ea = some ⟨x, off, none⟩ → F x ∧ x ≠ p
  fit : ∀ x ∈ L, EnF w x.1 x.2
  fa : ∀ x ∈ L, x.1.n ≠ 0 → ∀ k off, x.1.a = some ⟨k, off, none⟩ → F k
  fp : F p
  lt : ∀ k, F k → k < w.heap.size
theorem LG.len {w : World} {p : Nat} {F : Nat → Prop} {b t c : Int} {ea : Option Addr} {en ec : Nat} {L : List (En × List UInt8)} (h : LG w p F b t c ea en ec L) : L.length = en := by
  have := h.es.1; simpa using this
theorem LG.ents {w : World} {p : Nat} {F : Nat → Prop} {b t c : Int} {ea : Option Addr} {en ec : Nat} {L : List (En × List UInt8)} (h : LG w p F b t c ea en ec L) : Ents w ea en ec L := h.es.ents rfl h.fit
theorem EnO.ft {F : Nat → Prop} {w w' : World} {ea : Option Addr} {en ec : Nat} {M : List En} (h : EnO w ea en ec M) (k : Ft F w w') (hn : ∀ x off, ea = some ⟨x, off, none⟩ → ¬ F x) : EnO w' ea en ec M := by
  obtain ⟨h1, h2⟩ := h
  refine ⟨h1, ?_⟩
  rcases h2 with h2 | ⟨g, R, e, hr, r⟩
  · exact .inl h2
  · exact .inr ⟨g, R, e, hr.ft k (hn g 0 e), r⟩
/-- what touches none of its blocks leaves a log -/
theorem LG.ft {G F : Nat → Prop} {w w' : World} {p : Nat} {b t c : Int} {ea : Option Addr} {en ec : Nat} {L : List (En × List UInt8)} (h : LG w p F b t c ea en ec L) (k : Ft G w w') (hd : ∀ x, F x → ¬ G x) : LG w' p F b t c ea en ec L :=
  ⟨h.row.ft k (hd p h.fp), h.es.ft k (fun x off e => hd x (h.ne x off e).1), h.ne, fun x hx => ⟨(h.fit x hx).ix, (h.fit x hx).tm, (h.fit x hx).kd, (h.fit x hx).rd.ft k (fun hn b off e => hd b (h.fa x hx hn b off e))⟩, h.fa, h.fp, fun x hx => Nat.lt_of_lt_of_le (h.lt x hx) k.size⟩
theorem LG.mono {F : Nat → Prop} {w w' : World} {p : Nat} {b t c : Int} {ea : Option Addr} {en ec : Nat} {L : List (En × List UInt8)} (h : LG w p F b t c ea en ec L) (hb : Below w.heap.size w w') : LG w' p F b t c ea en ec L :=
  h.ft (Ft.of_below (F := fun _ => False) hb) (fun _ _ h => h)
theorem Row.c5 {w : World} {g : Nat} {ty : TypeId} {a0 a1 a2 a3 a4 : Value} (h : Row w g ty [a0, a1, a2, a3, a4]) :
    w.cell? ⟨g, 0, none⟩ = some a0 ∧ w.cell? ⟨g, 1, none⟩ = some a1 ∧ w.cell? ⟨g, 2, none⟩ = some a2 ∧ w.cell? ⟨g, 3, none⟩ = some a3 ∧ w.cell? ⟨g, 4, none⟩ = some a4 := by
  refine ⟨?_, ?_, ?_, ?_, ?_⟩ <;> (rw [h.cellV]; rfl)
/-- the plain log -/
def lsOf (b t c : Int) (L : List (En × List UInt8)) : LS := ⟨b, t, c, L.map pe⟩
theorem at_of {b t c : Int} {L : List (En × List UInt8)} {k : Nat} (hk : k < L.length) : (lsOf b t c L).at (b + 1 + k) = pe (L.getD k Ez) := by
  unfold LS.at lsOf
  dsimp only
  have h1 : (b + 1 + (k : Int) - b - 1).toNat = k := by omega
  rw [h1]
  simp [List.getD_eq_getElem?_getD, hk]
end Go.Proofs.YtjkkopbhdeljmaaGreat.W

namespace Go.Proofs.YtjkkopbhdeljmaaGreat.W
open Go Go.ChangeShapes Go.WideShapes Go.ChangeAt Go.RowKit

set_option maxRecDepth 100000 in
set_option maxHeartbeats 4000000 in
theorem gready (p : Nat) (F : Nat → Prop) (b t c : Int) (ea : Option Addr) (en ec : Nat) (L : List (En × List UInt8)) (w : World) (h : LG w p F b t c ea en ec L) (ho : LOK (lsOf b t c L)) : Calls Tryz.prog 51 #[.pointer (some ⟨p, 0, none⟩)] w fun x w' => x = .returned (.bool true) ∧ w = w' := by
  have hl := h.len
  have hb := ho.b
  have hn := ho.n
  obtain ⟨c0, c1, c2, c3, c4⟩ := h.row.c5
  rw [show (lsOf b t c L).l.length = en by rw [← hl]; simp [lsOf]] at hn
  dsimp only [lsOf] at hb
  clear h ho
  go_enter Tryz.func51, Tryz.ntmps51
  go_wp2_with fail
  go_ret
  exact ⟨rfl, rfl⟩
set_option maxRecDepth 100000 in
set_option maxHeartbeats 4000000 in
theorem gbase (p : Nat) (F : Nat → Prop) (b t c : Int) (ea : Option Addr) (en ec : Nat) (L : List (En × List UInt8)) (w : World) (h : LG w p F b t c ea en ec L) (ho : LOK (lsOf b t c L)) : Calls Tryz.prog 23 #[.pointer (some ⟨p, 0, none⟩)] w fun x w' => x = .returned (.int .i64 b) ∧ w = w' := by
  have hl := h.len
  have hb := ho.b
  have hn := ho.n
  obtain ⟨c0, c1, c2, c3, c4⟩ := h.row.c5
  rw [show (lsOf b t c L).l.length = en by rw [← hl]; simp [lsOf]] at hn
  dsimp only [lsOf] at hb
  have RD := Lib.hid (gready p F b t c ea en ec L w h ho)
  clear h ho
  go_enter Tryz.func23, Tryz.ntmps23
  go_wp2_with (first | (go_at_call 51; refine RD.out.mono ?_; rintro x w1 ⟨rfl, rfl⟩))
  go_ret
  exact ⟨rfl, rfl⟩
set_option maxRecDepth 100000 in
set_option maxHeartbeats 4000000 in
theorem glast (p : Nat) (F : Nat → Prop) (b t c : Int) (ea : Option Addr) (en ec : Nat) (L : List (En × List UInt8)) (w : World) (h : LG w p F b t c ea en ec L) (ho : LOK (lsOf b t c L)) : Calls Tryz.prog 24 #[.pointer (some ⟨p, 0, none⟩)] w fun x w' => x = .returned (.int .i64 (lsOf b t c L).last) ∧ Below w.heap.size w w' := by
  have hl := h.len
  have hb := ho.b
  have hn := ho.n
  obtain ⟨c0, c1, c2, c3, c4⟩ := h.row.c5
  rw [show (lsOf b t c L).l.length = en by rw [← hl]; simp [lsOf]] at hn
  dsimp only [lsOf] at hb
  have RD := Lib.hid (gready p F b t c ea en ec L w h ho)
  have hv : (lsOf b t c L).last = b + (en : Int) := by unfold LS.last lsOf; dsimp only; rw [List.length_map, hl]
  rw [hv]
  have gw : IntKind.i64.wrap (b + (en : Int)) = b + (en : Int) := by rw [IntKind.wrap_i64]; omega
  clear h ho hv
  go_enter Tryz.func24, Tryz.ntmps24
  go_wp2_with (first | (go_at_call 51; refine RD.out.mono ?_; rintro x w1 ⟨rfl, rfl⟩))
  go_region
  go_wp2_with fail
  go_ret
  exact ⟨rfl, (Below.refl _ _).drew⟩
set_option maxRecDepth 100000 in
set_option maxHeartbeats 4000000 in
theorem ghas (p : Nat) (F : Nat → Prop) (b t c : Int) (ea : Option Addr) (en ec : Nat) (L : List (En × List UInt8)) (i : Int) (w : World) (h : LG w p F b t c ea en ec L) (ho : LOK (lsOf b t c L)) : Calls Tryz.prog 85 #[.pointer (some ⟨p, 0, none⟩), .int .i64 i] w fun x w' => x = .returned (.bool ((lsOf b t c L).has i)) ∧ Below w.heap.size w w' := by
  have hl := h.len
  have hb := ho.b
  have hn := ho.n
  obtain ⟨c0, c1, c2, c3, c4⟩ := h.row.c5
  rw [show (lsOf b t c L).l.length = en by rw [← hl]; simp [lsOf]] at hn
  dsimp only [lsOf] at hb
  have GL := Lib.hid (fun (W : World) (hb : Below w.heap.size w W) => glast p F b t c ea en ec L W (h.mono hb) ho)
  obtain ⟨z, hz⟩ : ∃ z, (lsOf b t c L).last = z := ⟨_, rfl⟩
  have hv : (lsOf b t c L).has i = (decide (b < i) && decide (i ≤ z)) := by unfold LS.has; rw [hz]; rfl
  rw [hv]
  rw [hz] at GL
  clear h ho hv hz hl hb hn
  by_cases hbi : b < i
  · rw [decide_eq_true hbi]
    go_enter Tryz.func85, Tryz.ntmps85
    go_wp2_with (first | (go_at_call 24; refine (GL.out w (Below.refl _ _)).mono ?_; rintro x w1 ⟨rfl, hb1⟩; have B1 := Lib.hid hb1; clear hb1))
    go_ret
    exact ⟨one (vbool (by simp)), B1.out⟩
  · rw [decide_eq_false hbi]
    go_enter Tryz.func85, Tryz.ntmps85
    go_wp2_with fail
    go_ret
    exact ⟨one (vbool (by simp)), Below.refl _ _⟩
set_option maxRecDepth 100000 in
set_option maxHeartbeats 4000000 in
theorem gplace (p : Nat) (F : Nat → Prop) (b t c : Int) (ea : Option Addr) (en ec : Nat) (L : List (En × List UInt8)) (i : Int) (w : World) (h : LG w p F b t c ea en ec L) (ho : LOK (lsOf b t c L)) (hi : b < i ∧ i ≤ b + 1000) : Calls Tryz.prog 86 #[.pointer (some ⟨p, 0, none⟩), .int .i64 i] w fun x w' => x = .returned (.int .i64 (i - b - 1)) ∧ w = w' := by
  have hl := h.len
  have hb := ho.b
  have hn := ho.n
  obtain ⟨c0, c1, c2, c3, c4⟩ := h.row.c5
  rw [show (lsOf b t c L).l.length = en by rw [← hl]; simp [lsOf]] at hn
  dsimp only [lsOf] at hb
  clear h ho
  have gw1 : IntKind.i64.wrap (i - b) = i - b := by rw [IntKind.wrap_i64]; omega
  have gw2 : IntKind.i64.wrap (i - b - 1) = i - b - 1 := by rw [IntKind.wrap_i64]; omega
  go_enter Tryz.func86, Tryz.ntmps86
  go_wp2_with fail
  go_ret
  exact ⟨rfl, rfl⟩
set_option maxRecDepth 100000 in
set_option maxHeartbeats 4000000 in
theorem gterm (p : Nat) (F : Nat → Prop) (b t c : Int) (ea : Option Addr) (en ec : Nat) (L : List (En × List UInt8)) (i : Int) (w : World) (h : LG w p F b t c ea en ec L) (ho : LOK (lsOf b t c L)) : Calls Tryz.prog 52 #[.pointer (some ⟨p, 0, none⟩), .int .i64 i] w fun x w' => x = .returned (.tuple #[.int .i64 ((lsOf b t c L).term i), .int .i64 ((lsOf b t c L).termE i)]) ∧ Below w.heap.size w w' := by
  have hl := h.len
  have hb := ho.b
  have hn := ho.n
  obtain ⟨c0, c1, c2, c3, c4⟩ := h.row.c5
  rw [show (lsOf b t c L).l.length = en by rw [← hl]; simp [lsOf]] at hn
  dsimp only [lsOf] at hb
  have RD := Lib.hid (gready p F b t c ea en ec L w h ho)
  have GH := Lib.hid (fun (W : World) (hb : Below w.heap.size w W) => ghas p F b t c ea en ec L i W (h.mono hb) ho)
  have GP := Lib.hid (fun (W : World) (hb : Below w.heap.size w W) => gplace p F b t c ea en ec L i W (h.mono hb) ho)
  have HG := Lib.hid h
  unfold LS.term LS.termE
  rw [show (lsOf b t c L).b = b from rfl, show (lsOf b t c L).t = t from rfl]
  by_cases hib : i = b
  · subst hib
    rw [if_pos rfl, if_pos rfl]
    clear h ho GH GP
    go_enter Tryz.func52, Tryz.ntmps52
    go_wp2_with (first | (go_at_call 51; refine RD.out.mono ?_; rintro x w1 ⟨rfl, rfl⟩))
    go_ret2
    exact ⟨rfl, Below.refl _ _⟩
  · rw [if_neg hib, if_neg hib]
    have hib1 : (i == b) = false := by simpa using hib
    rcases hhas : (lsOf b t c L).has i with _ | _
    · rw [hhas] at GH
      rw [if_neg (by decide), if_neg (by decide)]
      clear h ho hhas GP
      go_enter Tryz.func52, Tryz.ntmps52
      go_wp2_with (first | (go_at_call 51; refine RD.out.mono ?_; rintro x w1 ⟨rfl, rfl⟩) | (go_at_call 85; refine (GH.out w (Below.refl _ _)).mono ?_; rintro x w1 ⟨rfl, hb1⟩; have B1 := Lib.hid hb1; clear hb1))
      go_ret2
      exact ⟨rfl, B1.out⟩
    · rw [hhas] at GH
      rw [if_pos rfl, if_pos rfl]
      have hh : b < i ∧ i ≤ b + (en : Int) := by
        unfold LS.has LS.last lsOf at hhas
        simp at hhas
        rw [hl] at hhas
        exact hhas
      obtain ⟨k, hk⟩ : ∃ k : Nat, i = b + 1 + (k : Int) := ⟨(i - b - 1).toNat, by omega⟩
      have hkn : k < en := by omega
      have hat : (lsOf b t c L).at i = pe (L.getD k Ez) := by rw [hk]; exact at_of (by rw [hl]; exact hkn)
      rw [hat]
      obtain ⟨x1, o1, he1, hx1, -, -⟩ := h.ents.at (Below.refl _ _) k hkn
      obtain ⟨⟨⟨jx, jt, jk, qa, qn, qc⟩, ql⟩, hq⟩ : ∃ y, L.getD k Ez = y := ⟨_, rfl⟩
      rw [hq] at hx1 ⊢
      dsimp only at hx1
      have X1 := Lib.hid (show w.cell? ⟨x1, o1 + k * 4 + 1, none⟩ = some (.int .i64 jt) from hx1 1 _ rfl)
      have hpv : i - b - 1 = (k : Int) := by omega
      have GPx := Lib.hid (fun (W : World) (hb : Below w.heap.size w W) => GP.out W hb (by omega))
      have g1 : (0 : Int) ≤ (k : Int) := by omega
      have g2 : (k : Int) < (en : Int) := by omega
      have HE1 := Lib.hid he1
      rw [hpv] at GPx
      show Calls _ _ _ _ fun x w' => x = .returned (.tuple #[.int .i64 jt, .int .i64 0]) ∧ Below w.heap.size w w'
      clear h ho hhas GP hx1 hq hat hh hk he1 hpv
      go_enter Tryz.func52, Tryz.ntmps52
      go_wp2_with (first | (go_at_call 51; refine RD.out.mono ?_; rintro x w1 ⟨rfl, rfl⟩) | (go_at_call 85; refine (GH.out w (Below.refl _ _)).mono ?_; rintro x w1 ⟨rfl, hb1⟩; have B1 := Lib.hid hb1; clear hb1))
      clear c0 c1 c2 c3 c4
      refine region_h (fun v => Below w1.heap.size w1 v) (by kernel_rfl) (by kernel_rfl) (Below.refl _ _).drew ?_
      obtain ⟨wd, hwd⟩ : ∃ wd, w1.drew = wd := ⟨_, rfl⟩
      have D0 : Hid (Below w1.heap.size w1 wd) := Lib.hid (by rw [← hwd]; exact (Below.refl _ _).drew)
      rw [hwd]
      clear hwd
      (refine h_read 0 rfl (by kernel_rfl) (by kernel_rfl) (h_free rfl) ?_ ?_ ?_; rotate_left; (focus (intro v hv; go_simp; rfl)); go_simp)
      (refine h_read 1 rfl (by kernel_rfl) (by kernel_rfl) (h_free rfl) ?_ ?_ ?_; rotate_left; (focus (intro v hv; go_simp; rfl)); go_simp)
      (refine h_read 2 rfl (by kernel_rfl) (by kernel_rfl) (h_free rfl) ?_ ?_ ?_; rotate_left; (focus (intro v hv; go_simp; rfl)); go_simp)
      (refine h_read 3 rfl (by kernel_rfl) (by kernel_rfl) (h_free rfl) ?_ ?_ ?_; rotate_left; (focus (intro v hv; have hbv := B1.out.trans (hv.mono B1.out.size); have H9 := HG.out.mono hbv; obtain ⟨c0, c1, c2, c3, c4⟩ := H9.row.c5; rw [HE1.out] at c4; have x9 := (hbv.cell (p := ⟨x1, o1 + k * 4 + 1, none⟩) (World.block_lt_of_cell? w _ X1.out)).trans X1.out; go_simp; rfl)); go_simp)
      (refine h_read 4 rfl (by kernel_rfl) (by kernel_rfl) (h_free rfl) ?_ ?_ ?_; rotate_left; (focus (intro v hv; go_simp; rfl)); go_simp)
      (refine h_read 5 rfl (by kernel_rfl) (by kernel_rfl) (h_free rfl) ?_ ?_ ?_; rotate_left; (focus (intro v hv; go_simp; rfl)); go_simp)
      (refine h_call 6 rfl (by kernel_rfl) (h_free rfl) 86 ?_ ?_ ?_; rotate_left; (focus (go_simp; rfl)))
      refine (GPx.out wd (B1.out.trans (D0.out.mono B1.out.size))).mono ?_
      rintro x w2 ⟨rfl, rfl⟩
      refine ⟨_, rfl, D0.out, ?_⟩
      go_simp
      (refine h_read 7 rfl (by kernel_rfl) (by kernel_rfl) (h_free rfl) ?_ ?_ ?_; rotate_left; (focus (intro v hv; go_simp; rfl)); go_simp)
      (refine h_read 8 rfl (by kernel_rfl) (by kernel_rfl) (h_free rfl) ?_ ?_ ?_; rotate_left; (focus (intro v hv; go_simp; rfl)); go_simp)
      (refine h_read 9 rfl (by kernel_rfl) (by kernel_rfl) (h_free rfl) ?_ ?_ ?_; rotate_left; (focus (intro v hv; have hbv := B1.out.trans (hv.mono B1.out.size); have H9 := HG.out.mono hbv; obtain ⟨c0, c1, c2, c3, c4⟩ := H9.row.c5; rw [HE1.out] at c4; have x9 := (hbv.cell (p := ⟨x1, o1 + k * 4 + 1, none⟩) (World.block_lt_of_cell? w _ X1.out)).trans X1.out; go_simp; rfl)); go_simp)
      (refine h_read 10 rfl (by kernel_rfl) (by kernel_rfl) (h_free rfl) ?_ ?_ ?_; rotate_left; (focus (intro v hv; go_simp; rfl)); go_simp)
      (refine h_read 11 rfl (by kernel_rfl) (by kernel_rfl) (h_free rfl) ?_ ?_ ?_; rotate_left; (focus (intro v hv; go_simp; rfl)); go_simp)
      refine h_done (by kernel_rfl) ?_
      go_wp2_with fail
      go_ret2
      exact ⟨rfl, B1.out.trans (D0.out.mono B1.out.size)⟩
set_option maxRecDepth 100000 in
set_option maxHeartbeats 4000000 in
theorem glastT (p : Nat) (F : Nat → Prop) (b t c : Int) (ea : Option Addr) (en ec : Nat) (L : List (En × List UInt8)) (w : World) (h : LG w p F b t c ea en ec L) (ho : LOK (lsOf b t c L)) : Calls Tryz.prog 25 #[.pointer (some ⟨p, 0, none⟩)] w fun x w' => x = .returned (.int .i64 ((lsOf b t c L).term (lsOf b t c L).last)) ∧ Below w.heap.size w w' := by
  have GL := Lib.hid (fun (W : World) (hb : Below w.heap.size w W) => glast p F b t c ea en ec L W (h.mono hb) ho)
  have GT := Lib.hid (fun (W : World) (hb : Below w.heap.size w W) => gterm p F b t c ea en ec L (lsOf b t c L).last W (h.mono hb) ho)
  obtain ⟨z, hz⟩ : ∃ z, (lsOf b t c L).last = z := ⟨_, rfl⟩
  rw [hz] at GL GT ⊢
  obtain ⟨y, hy⟩ : ∃ y, (lsOf b t c L).term z = y := ⟨_, rfl⟩
  rw [hy] at GT ⊢
  obtain ⟨ye, hye⟩ : ∃ y, (lsOf b t c L).termE z = y := ⟨_, rfl⟩
  rw [hye] at GT
  clear h ho hz hy hye
  go_enter Tryz.func25, Tryz.ntmps25
  go_wp2_with (first | (go_at_call 24; refine (GL.out w (Below.refl _ _)).mono ?_; rintro x w1 ⟨rfl, hb1⟩; have B1 := Lib.hid hb1; clear hb1) | (go_at_call 52; refine (GT.out w1 B1.out).mono ?_; rintro x w2 ⟨rfl, hb2⟩; have B2 := Lib.hid (B1.out.trans (hb2.mono B1.out.size)); clear hb2))
  go_ret
  exact ⟨rfl, B2.out⟩
end Go.Proofs.YtjkkopbhdeljmaaGreat.W

namespace Go.Proofs.YtjkkopbhdeljmaaGreat.W
open Go Go.ChangeShapes Go.WideShapes Go.ChangeAt Go.RowKit
open Go.Proofs.YtjkkopbhdeljmaaGreat.P (enc dec)

/-- the members that data say -/
def confV (l : List UInt8) : Int := if endV (numR 127 l 0).2.1 (numR 127 l 0).2.2 = 0 then ((numR 127 l 0).1 : Int) else 0
set_option maxRecDepth 100000 in
set_option maxHeartbeats 4000000 in
theorem gconfOf (a : Option Addr) (n c : Nat) (l : List UInt8) (w : World) (h : Rd w a n c l) (hm : n ≤ 140737488355000) : Calls Tryz.prog 78 #[.slice a n c] w fun x w' => x = .returned (.int .i64 (confV l)) ∧ Below w.heap.size w w' := by
  have H := Lib.hid h
  obtain ⟨q, hq⟩ : ∃ q, numR 127 l 0 = q := ⟨_, rfl⟩
  obtain ⟨ev, hev⟩ : ∃ e, endV q.2.1 q.2.2 = e := ⟨_, rfl⟩
  have HQ := Lib.hid hq
  have HEV := Lib.hid hev
  unfold confV
  rw [hq, hev]
  clear h hq hev
  by_cases hz : ev = 0
  · rw [if_pos hz]
    have hz1 : (ev == 0) = true := by simpa using hz
    go_enter Tryz.func78, Tryz.ntmps78
    go_wp2_with (first
      | (go_at_call 113; refine (popen a n c l w H.out hm).mono ?_; rintro x w1 ⟨p, rfl, hp, hP, hb⟩; have P1 := Lib.hid hP; have PL := Lib.hid hp; have B1 := Lib.hid hb; clear hp hP hb)
      | (go_at_call 114; refine (pnumR p 127 l 0 w1 P1.out).mono ?_; rw [HQ.out]; rintro x w2 ⟨rfl, hP, hu⟩; have P2 := Lib.hid hP; have B2 := Lib.hid (B1.out.trans (hu.below PL.out)); clear hP hu)
      | (go_at_call 115; refine (pend p q.2.1 q.2.2 w2 P2.out).mono ?_; rw [HEV.out]; rintro x w3 ⟨rfl, rfl⟩))
    go_ret
    exact ⟨rfl, B2.out⟩
  · rw [if_neg hz]
    have hz1 : (ev == 0) = false := by simpa using hz
    go_enter Tryz.func78, Tryz.ntmps78
    go_wp2_with (first
      | (go_at_call 113; refine (popen a n c l w H.out hm).mono ?_; rintro x w1 ⟨p, rfl, hp, hP, hb⟩; have P1 := Lib.hid hP; have PL := Lib.hid hp; have B1 := Lib.hid hb; clear hp hP hb)
      | (go_at_call 114; refine (pnumR p 127 l 0 w1 P1.out).mono ?_; rw [HQ.out]; rintro x w2 ⟨rfl, hP, hu⟩; have P2 := Lib.hid hP; have B2 := Lib.hid (B1.out.trans (hu.below PL.out)); clear hP hu)
      | (go_at_call 115; refine (pend p q.2.1 q.2.2 w2 P2.out).mono ?_; rw [HEV.out]; rintro x w3 ⟨rfl, rfl⟩))
    go_ret
    exact ⟨rfl, B2.out⟩
/-- an entry's members -/
def confIn (x : Pe) : Int := if x.2.2.1 = 2 then confV x.2.2.2 else 0
set_option maxRecDepth 100000 in
set_option maxHeartbeats 4000000 in
theorem gconfIn (e : En) (l : List UInt8) (w : World) (h : Rd w e.a e.n e.c l) (hm : e.n ≤ 140737488355000) : Calls Tryz.prog 90 #[.agg e.cells.toArray] w fun x w' => x = .returned (.int .i64 (confIn (pe (e, l)))) ∧ Below w.heap.size w w' := by
  obtain ⟨ix, tm, kd, a, n, c⟩ := e
  have H := Lib.hid h
  unfold confIn pe
  dsimp only at H hm ⊢
  clear h
  by_cases hk : kd = 2
  · rw [if_pos hk]
    have hk1 : (kd == 2) = true := by simpa using hk
    have hk2 : (kd != 2) = false := by simpa using hk
    go_enter Tryz.func90, Tryz.ntmps90
    go_wp2_with (first
      | (with_reducible refine box_row (o := ⟨some 1, _, _, _, _, _⟩) rfl _ _ rfl (En.cells ⟨ix, tm, kd, a, n, c⟩) rfl ?_; intro w1 hr1 hb1 hz1; have B1 := Lib.hid hb1; obtain ⟨c0, c1, c2, c3⟩ := hr1.q4; clear hr1 hb1 hz1)
      | (go_at_call 78; refine (gconfOf a n c l w1 (H.out.mono B1.out) hm).mono ?_; rintro x w2 ⟨rfl, hb⟩; have B2 := Lib.hid (B1.out.trans (hb.mono B1.out.size)); clear hb c0 c1 c2 c3))
    go_ret
    exact ⟨rfl, B2.out⟩
  · rw [if_neg hk]
    have hk1 : (kd == 2) = false := by simpa using hk
    have hk2 : (kd != 2) = true := by simpa using hk
    go_enter Tryz.func90, Tryz.ntmps90
    go_wp2_with (first
      | (with_reducible refine box_row (o := ⟨some 1, _, _, _, _, _⟩) rfl _ _ rfl (En.cells ⟨ix, tm, kd, a, n, c⟩) rfl ?_; intro w1 hr1 hb1 hz1; have B1 := Lib.hid hb1; obtain ⟨c0, c1, c2, c3⟩ := hr1.q4; clear hr1 hb1 hz1))
    go_ret
    exact ⟨rfl, B1.out⟩
theorem Fr.form3 {w : World} {base : Nat} {v : Value} {l : List UInt8} (h : Fr w base v l) (n : Nat) (hn : l.length = n) : ∃ a cap, v = .slice a n cap ∧ Rd w a n cap l ∧ (∀ k off, a = some ⟨k, off, none⟩ → base ≤ k) := by
  subst hn
  obtain ⟨a, cap, hv, hr, ha⟩ := h.form
  refine ⟨a, cap, hv, hr, fun k off e => ?_⟩
  rcases ha with rfl | ⟨g, rfl, hg, -⟩
  · cases e
  · have : g = k := congrArg Addr.block (Option.some.inj e)
    omega
set_option maxRecDepth 100000 in
set_option maxHeartbeats 4000000 in
theorem gcopied (e : En) (l : List UInt8) (w : World) (h : Rd w e.a e.n e.c l) (hmax : e.n ≤ 140737488355000) : Calls Tryz.prog 87 #[.agg e.cells.toArray] w fun x w' => ∃ a c, x = .returned (.agg (En.cells ⟨e.ix, e.tm, e.kd, a, e.n, c⟩).toArray) ∧ Rd w' a e.n c l ∧ (∀ k off, a = some ⟨k, off, none⟩ → w.heap.size ≤ k) ∧ Below w.heap.size w w' := by
  obtain ⟨ix, tm, kd, a, n, c⟩ := e
  have HR := Lib.hid h
  have HN := Lib.hid h.hlen
  have EZ := Lib.hid en_zero
  have ES := Lib.hid en_size
  dsimp only at hmax
  unfold En.cells
  dsimp only
  clear h
  go_enter Tryz.func87, Tryz.ntmps87
  go_wp2_with (first
    | (with_reducible refine box_row (o := ⟨some 1, _, _, _, _, _⟩) rfl _ _ rfl [.int .i64 ix, .int .i64 tm, .int .i64 kd, .slice a n c] rfl ?_; intro w1 hr1 hb1 hz1; have E1 := Lib.hid hr1; have B1 := Lib.hid hb1; clear hr1 hb1 hz1)
    | ((with_reducible refine alloc_row (o := ⟨some 2, _, _, _, _, _⟩) rfl _ rfl _ EZ.out ?_); intro w2 hr2 hb2 hz2; have Z2 := Lib.hid hr2; have LT := Lib.hid (show w.heap.size < w1.heap.size from E1.out.lt); have E2 := Lib.hid (E1.out.below hb2 E1.out.lt); have B2 := Lib.hid (B1.out.trans (hb2.mono B1.out.size)); obtain ⟨c0, c1, c2, c3⟩ := E2.out.q4; clear hr2 hb2 hz2)
    | (go_at_call 21; refine (fclone a n c l w2 (HR.out.mono B2.out) hmax).mono ?_; rintro x w3 ⟨v, rfl, hf, hb⟩; obtain ⟨b, c', hv, hr, hfr⟩ := hf.form3 n HN.out; subst hv; have FRX := Lib.hid hfr; have R3 := Lib.hid hr; have E3 := Lib.hid (E2.out.below hb E2.out.lt); have Z3 := Lib.hid (Z2.out.below hb Z2.out.lt); have B3 := Lib.hid (B2.out.trans (hb.mono B2.out.size)); have U4 := Lib.hid (Upd.setCell w3 w.heap.size 3 (.slice b n c')); have E4 := Lib.hid (show Row (w3.setCell ⟨w.heap.size, 3, none⟩ (.slice b n c')) w.heap.size 69 (En.cells ⟨ix, tm, kd, b, n, c'⟩) from E3.out.setV 3 (.slice b n c')); have R4 := Lib.hid (R3.out.put E3.out (NB_en _ _ _ _ _ _) U4.out); have Z4 := Lib.hid (Z3.out.upd U4.out (by have := LT.out; omega)); have B4 := Lib.hid (B3.out.trans (U4.out.below (Nat.le_refl _))); clear hf hr hb hfr c0 c1 c2 c3; have f3 := E3.out.frozen 3; obtain ⟨c0, c1, c2, c3⟩ := E3.out.q4)
    | ((with_reducible refine load_row (o := ⟨some 7, _, _, _, _, _⟩) rfl _ _ rfl w.heap.size ?_ _ (En.cells ⟨ix, tm, kd, b, n, c'⟩) _ E4.out Tryz.underlying69 rfl ?_ ?_); (focus go_simp); (focus (exact ES.out)))
    | ((with_reducible refine store_row (o := ⟨none, _, _, _, _, _⟩) rfl _ (.tmp 2) _ rfl w1.heap.size (En.cells ⟨ix, tm, kd, b, n, c'⟩) ?_ ?_ 69 _ Z4.out ?_ ?_ ?_ ?_); (focus go_simp); (focus (first | (go_simp; done) | (go_simp; rfl))); (focus (exact ES.out)); (focus rfl); (focus (exact en_one _)); intro w5 hr5 hu5; have E5 := Lib.hid hr5; have R5 := Lib.hid (R4.out.put Z4.out (NB_en _ _ _ _ _ _) hu5); have B5 := Lib.hid (B4.out.trans (hu5.below B1.out.size)); clear hr5 hu5))
  exact bodyPost_ret (results_cell_row rfl _ _ w1.heap.size 69 _ _ _ (by go_simp) E5.out Tryz.underlying69 rfl ES.out) rfl ⟨b, c', rfl, R5.out, fun k off e => Nat.le_trans B2.out.size (FRX.out k off e), B5.out⟩
end Go.Proofs.YtjkkopbhdeljmaaGreat.W
