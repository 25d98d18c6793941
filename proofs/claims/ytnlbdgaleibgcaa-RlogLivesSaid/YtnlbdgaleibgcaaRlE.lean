/- LAYER 13 (rlog): Append and New of the program, plain and in one contract each. -/
import Derived.Test.YtnlbdgaleibgcaaRlD
set_option linter.unusedSimpArgs false
set_option linter.unusedVariables false
namespace Go.Proofs.Ytnlbdgaleibgcaa.W
open Go Go.ChangeShapes Go.WideShapes Go.ChangeAt Go.RowKit

/-- an entry that may be -/
def okPe (x : Pe) : Bool := inV x.1 1 2147483648 && (inV x.2.1 0 2147483648 && (inV x.2.2.1 0 2 && decide (x.2.2.2.length ≤ 4096)))
theorem okPe_en {e : En} {l : List UInt8} (h : l.length = e.n) : okPe (pe (e, l)) = enOk e := by unfold okPe enOk pe; rw [h]
/-- what Append makes -/
def LS.app (q : LS) (x : Pe) : LS × Int := if okPe x = false then (q, 1) else if x.1 = q.last + 1 then ({ q with l := q.l ++ [x] }, 0) else (q, 10)
/-- what New takes -/
def LS.apps (q : LS) : List Pe → LS
  | [] => q
  | x :: l => if (q.app x).2 = 0 then (q.app x).1.apps l else q
theorem rise_app : ∀ (l : List Pe) (b : Int) (x : Pe), rise b l → x.1 = b + l.length + 1 → rise b (l ++ [x])
  | [], b, x, _, hx => ⟨by simpa using hx, trivial⟩
  | y :: l, b, x, h, hx => ⟨h.1, rise_app l (b + 1) x h.2 (by rw [hx]; simp; omega)⟩
theorem LOK.app {q : LS} {x : Pe} (h : LOK q) (hn : q.l.length + 1 ≤ 200) : LOK (q.app x).1 := by
  unfold LS.app
  split
  · exact h
  · rename_i hok
    split
    · rename_i hx
      refine ⟨rise_app _ _ _ h.r (by rw [hx]; unfold LS.last; rfl), h.b, by simpa using hn, fun y hy => ?_⟩
      rcases List.mem_append.1 hy with hy | hy
      · exact h.x y hy
      · rw [List.mem_singleton.1 hy]
        unfold okPe at hok
        simp at hok; exact hok.2.2.2
    · exact h
theorem LS.app_b (q : LS) (x : Pe) : (q.app x).1.b = q.b ∧ (q.app x).1.t = q.t ∧ (q.app x).1.c = q.c := by
  unfold LS.app; split
  · exact ⟨rfl, rfl, rfl⟩
  · split <;> exact ⟨rfl, rfl, rfl⟩
theorem LS.app_len (q : LS) (x : Pe) : (q.app x).1.l.length ≤ q.l.length + 1 := by
  unfold LS.app; split
  · simp
  · split <;> simp
theorem LG.sub {w : World} {F F' : Nat → Prop} {p : Nat} {b t c : Int} {ea : Option Addr} {en ec : Nat} {L : List (En × List UInt8)} (h : LG w p F b t c ea en ec L) (h1 : ∀ k, F k → F' k) (h2 : ∀ k, F' k → k < w.heap.size) : LG w p F' b t c ea en ec L :=
  ⟨h.row, h.es, fun x off e => ⟨h1 x (h.ne x off e).1, (h.ne x off e).2⟩, h.fit, fun x hx hn k off e => h1 k (h.fa x hx hn k off e), h1 p h.fp, h2⟩
theorem FG.lt {F : Nat → Prop} {w w' : World} (h : ∀ k, F k → k < w.heap.size) (hs : w.heap.size ≤ w'.heap.size) : ∀ k, FG F w w' k → k < w'.heap.size := fun k hk => hk.elim (fun hf => Nat.lt_of_lt_of_le (h k hf) hs) (fun hf => hf.2)
theorem gappend (p : Nat) (F : Nat → Prop) (b t c : Int) (ea : Option Addr) (en ec : Nat) (L : List (En × List UInt8)) (e : En) (l : List UInt8) (w : World) (h : LG w p F b t c ea en ec L) (ho : LOK (lsOf b t c L)) (he : EnF w e l) :
    Calls Try.prog 14 #[.pointer (some ⟨p, 0, none⟩), .agg e.cells.toArray] w fun x w' => ∃ ea' en' ec' L', x = .returned (.int .i64 ((lsOf b t c L).app (pe (e, l))).2) ∧ LG w' p (FG F w w') b t c ea' en' ec' L' ∧ lsOf b t c L' = ((lsOf b t c L).app (pe (e, l))).1 ∧ Ft F w w' := by
  have hok := okPe_en he.rd.hlen
  unfold LS.app
  rw [hok]
  cases hk : enOk e with
  | false =>
    rw [if_pos rfl]
    refine (gappend_bad p F b t c ea en ec L e l w h ho hk).mono ?_
    rintro x w' ⟨rfl, hb⟩
    exact ⟨ea, en, ec, L, rfl, (h.mono hb).sub (fun k hk => .inl hk) (FG.lt h.lt hb.size), rfl, Ft.of_below hb⟩
  | true =>
    rw [if_neg (by decide)]
    by_cases hx : e.ix = (lsOf b t c L).last + 1
    · rw [if_pos (show (pe (e, l)).1 = _ from hx)]
      refine (gappend_ok p F b t c ea en ec L e l w h ho hk he hx).mono ?_
      rintro x w' ⟨ea', ec', L', rfl, hL, hp, hf⟩
      exact ⟨ea', en + 1, ec', L', rfl, hL, by unfold lsOf; rw [hp], hf⟩
    · rw [if_neg (show ¬ (pe (e, l)).1 = _ from hx)]
      refine (gappend_log p F b t c ea en ec L e l w h ho hk he hx).mono ?_
      rintro x w' ⟨rfl, hb⟩
      exact ⟨ea, en, ec, L, rfl, (h.mono hb).sub (fun k hk => .inl hk) (FG.lt h.lt hb.size), rfl, Ft.of_below hb⟩
theorem lg_built : Try.prog.built 55 [(0, .bool true)] = some [.bool true, .int .i64 0, .int .i64 0, .int .i64 0, .slice none 0 0].toArray := by kernel_rfl
theorem apps_stop {q : LS} {x : Pe} {l : List Pe} (h : (q.app x).2 ≠ 0) : q.apps (x :: l) = q := by
  show (if (q.app x).2 = 0 then _ else q) = q
  rw [if_neg h]
theorem apps_go {q : LS} {x : Pe} {l : List Pe} (h : (q.app x).2 = 0) : q.apps (x :: l) = (q.app x).1.apps l := by
  show (if (q.app x).2 = 0 then _ else q) = _
  rw [if_pos h]
theorem drop_pe (L : List (En × List UInt8)) (k : Nat) (hk : k < L.length) : (L.drop k).map pe = pe (L.getD k Ez) :: (L.drop (k + 1)).map pe := by
  have h1 : L.getD k Ez = L[k] := by simp [List.getD_eq_getElem?_getD, hk]
  rw [List.drop_eq_getElem_cons hk, h1]; rfl
set_option maxRecDepth 100000 in
set_option maxHeartbeats 8000000 in
theorem gnew (b t c : Int) (a : Option Addr) (n cp : Nat) (L0 : List (En × List UInt8)) (w : World) (h : Ents w a n cp L0) (hb : 0 ≤ b ∧ b ≤ 4294967296) (hn : n ≤ 100) :
    Calls Try.prog 10 #[.int .i64 b, .int .i64 t, .int .i64 c, .slice a n cp] w fun x w' => ∃ p F ea en ec L, x = .returned (.pointer (some ⟨p, 0, none⟩)) ∧ LG w' p F b t c ea en ec L ∧ lsOf b t c L = (lsOf b t c []).apps (L0.map pe) ∧ LOK (lsOf b t c L) ∧ L.length ≤ n ∧ (∀ k, F k → w.heap.size ≤ k) ∧ Below w.heap.size w w' := by
  have H := Lib.hid h
  have HL := Lib.hid h.hlen
  have EZ := Lib.hid en_zero
  have ES := Lib.hid en_size
  clear h
  go_enter Try.func10, Try.ntmps10
  go_wp2_with (first
    | ((with_reducible refine build_row (o := ⟨some 12, _, _, _, _, _⟩) rfl _ _ rfl [.bool true, .int .i64 0, .int .i64 0, .int .i64 0, .slice none 0 0] ?_ ?_); (focus (go_simp; exact lg_built)))
    | ((with_reducible refine box_row (o := ⟨some 13, _, _, _, _, _⟩) rfl _ _ rfl [.bool true, .int .i64 0, .int .i64 0, .int .i64 0, .slice none 0 0] ?_ ?_); (focus (first | rfl | (go_simp; done) | (go_simp; rfl))); intro w1 hr1 hb1 hz1; have R1 := Lib.hid hr1; have B1 := Lib.hid hb1; clear hr1 hb1 hz1)
    | (go_at_call 20; refine (greset w.heap.size (fun k => k = w.heap.size) 0 0 0 none 0 0 [] b t c w1 ⟨R1.out, EnO.nil _, (fun _ _ e => by cases e), (by simp), (by simp), rfl, fun k hk => by rw [hk]; exact R1.out.lt⟩ ⟨trivial, by decide, by decide, (by simp [lsOf])⟩).mono ?_; rintro x w2 ⟨⟨v, rfl⟩, hG, hu⟩; have G2 := Lib.hid hG; have B2 := Lib.hid (B1.out.trans (hu.below (Nat.le_refl _))); clear hG hu))
  have A2 : Hid (LG w2 w.heap.size (fun k => w.heap.size ≤ k ∧ k < w2.heap.size) b t c none 0 0 []) := Lib.hid (G2.out.sub (fun k hk => by rw [hk]; exact ⟨Nat.le_refl _, by rw [← hk]; exact G2.out.lt k hk⟩) (fun k hk => hk.2))
  have K2 : Hid (LOK (lsOf b t c [])) := Lib.hid ⟨trivial, hb, Nat.zero_le _, (by simp [lsOf])⟩
  clear G2 R1
  go_loopw [21] (fun i wr => ∃ (k : Nat) (ea : Option Addr) (en ec : Nat) (L : List (En × List UInt8)), i = .int .i64 (k : Int) ∧ k ≤ n ∧ en ≤ k ∧ Hid (LG wr w.heap.size (fun x => w.heap.size ≤ x ∧ x < wr.heap.size) b t c ea en ec L) ∧ Hid (LOK (lsOf b t c L)) ∧ Hid ((lsOf b t c []).apps (L0.map pe) = (lsOf b t c L).apps ((L0.drop k).map pe)) ∧ Hid (Below w.heap.size w wr)) (fun i _ => n - (intOf i).toNat)
  case atStart => exact ⟨0, none, 0, 0, [], rfl, Nat.zero_le _, Nat.le_refl _, A2, K2, Lib.hid rfl, B2⟩
  case round =>
    obtain ⟨k, ea, en, ec, L, rfl, hk, hek, HG, HK, HA, HB⟩ := hrel
    by_cases hlt : k < n
    · obtain ⟨x1, o1, rfl, hx1, hf1, hk1⟩ := H.out.at HB.out k hlt
      have hdr := drop_pe L0 k hk1
      obtain ⟨⟨e, l⟩, hq⟩ : ∃ y, L0.getD k Ez = y := ⟨_, rfl⟩
      rw [hq] at hx1 hf1 hdr
      dsimp only at hx1 hf1
      have X1 := Lib.hid hx1
      have F1 := Lib.hid hf1
      have HA2 := Lib.hid (HA.out.trans (by rw [hdr]))
      have HAn := Lib.hid (show (lsOf b t c L).l.length + 1 ≤ 200 by have := HG.out.len; show (L.map pe).length + 1 ≤ 200; rw [List.length_map]; omega)
      have g1 : (0 : Int) ≤ (k : Int) := by omega
      have g2 : (k : Int) < (n : Int) := by omega
      clear hx1 hf1 hq hdr hk1
      obtain ⟨er, her⟩ : ∃ er, ((lsOf b t c L).app (pe (e, l))).2 = er := ⟨_, rfl⟩
      have HER := Lib.hid her
      clear her
      by_cases hz : er = 0
      · have hz1 : (er == 0) = true := by simpa using hz
        have hz2 : (er != 0) = false := by simpa using hz
        go_wp2_with (first
          | ((with_reducible refine load_cells (o := ⟨some 24, _, _, _, _, _⟩) rfl _ _ rfl x1 (o1 + k * 4) ?_ e.cells _ X1.out Try.underlying34 rfl ?_ ?_); (focus go_simp); (focus (exact ES.out)))
            | ((with_reducible refine alloc_row (o := ⟨some 11, _, _, _, _, _⟩) rfl _ rfl _ EZ.out ?_); intro w2 hr hb hz; have E2 := Lib.hid hr; have G2 := Lib.hid (HG.out.mono hb); have B2' := Lib.hid (HB.out.trans (hb.mono HB.out.size)); have F2 := Lib.hid (F1.out.mono hb); clear hr hb hz)
            | ((with_reducible refine store_row (o := ⟨none, _, _, _, _, _⟩) rfl _ (.tmp 11) _ rfl wr.heap.size e.cells ?_ ?_ 34 _ E2.out ?_ ?_ (cells_one _) ?_); (focus go_simp); (focus (first | (go_simp; done) | (go_simp; rfl))); (focus (exact ES.out)); (focus rfl); intro w3 hr hu; have E3 := Lib.hid hr; have G3 := Lib.hid (G2.out.ft (Ft.of_upd (F := fun k => k = wr.heap.size) hu rfl) (fun x hx hg => by have := hx.2; rw [hg] at this; exact Nat.lt_irrefl _ this)); have F3 := Lib.hid (F2.out.put13 E2.out (NB_en _ _ _ _ _ _) hu); have B3 := Lib.hid (B2'.out.trans (hu.below HB.out.size)); have S3 := Lib.hid (show wr.heap.size ≤ w3.heap.size from (by have h1 := E2.out.lt; have h2 := hu.size; omega)); clear hr hu)
            | ((with_reducible refine load_row (o := ⟨some 26, _, _, _, _, _⟩) rfl _ _ rfl wr.heap.size ?_ _ e.cells _ E3.out Try.underlying34 rfl ?_ ?_); (focus go_simp); (focus (exact ES.out)))
            | (go_at_call 14; refine (gappend w.heap.size _ b t c ea en ec L e l w3 G3.out HK.out F3.out).mono ?_; rw [HER.out]; rintro x w4 ⟨ea', en', ec', L', rfl, hG, heq, hft⟩; have EQ4 := Lib.hid heq; have B4 := Lib.hid (B3.out.trans (hft.below B3.out.size (fun k hk => hk.1))); have G4 : Hid (LG w4 w.heap.size (fun x => w.heap.size ≤ x ∧ x < w4.heap.size) b t c ea' en' ec' L') := Lib.hid (hG.sub (fun k hk => hk.elim (fun h => ⟨h.1, by have := hft.size; have := S3.out; have := h.2; omega⟩) (fun h => ⟨Nat.le_trans B3.out.size h.1, h.2⟩)) (fun k hk => hk.2)); clear hG heq hft))
        go_roundw
        case rel =>
          refine ⟨k + 1, ea', en', ec', L', vint (by omega), by omega, ?_, G4, Lib.hid (by rw [EQ4.out]; exact HK.out.app HAn.out), Lib.hid ?_, B4⟩
          · have h1 := LS.app_len (lsOf b t c L) (pe (e, l))
            rw [← EQ4.out] at h1
            have h2 : (lsOf b t c L').l.length = en' := by show (L'.map pe).length = en'; rw [List.length_map]; exact G4.out.len
            have h3 : (lsOf b t c L).l.length = en := by show (L.map pe).length = en; rw [List.length_map]; exact HG.out.len
            omega
          · rw [HA2.out, apps_go (by rw [HER.out]; exact hz), EQ4.out]
        case measure => simp [intOf]; omega
      · have hz1 : (er == 0) = false := by simpa using hz
        have hz2 : (er != 0) = true := by simpa using hz
        go_wp2_with (first
          | ((with_reducible refine load_cells (o := ⟨some 24, _, _, _, _, _⟩) rfl _ _ rfl x1 (o1 + k * 4) ?_ e.cells _ X1.out Try.underlying34 rfl ?_ ?_); (focus go_simp); (focus (exact ES.out)))
            | ((with_reducible refine alloc_row (o := ⟨some 11, _, _, _, _, _⟩) rfl _ rfl _ EZ.out ?_); intro w2 hr hb hz; have E2 := Lib.hid hr; have G2 := Lib.hid (HG.out.mono hb); have B2' := Lib.hid (HB.out.trans (hb.mono HB.out.size)); have F2 := Lib.hid (F1.out.mono hb); clear hr hb hz)
            | ((with_reducible refine store_row (o := ⟨none, _, _, _, _, _⟩) rfl _ (.tmp 11) _ rfl wr.heap.size e.cells ?_ ?_ 34 _ E2.out ?_ ?_ (cells_one _) ?_); (focus go_simp); (focus (first | (go_simp; done) | (go_simp; rfl))); (focus (exact ES.out)); (focus rfl); intro w3 hr hu; have E3 := Lib.hid hr; have G3 := Lib.hid (G2.out.ft (Ft.of_upd (F := fun k => k = wr.heap.size) hu rfl) (fun x hx hg => by have := hx.2; rw [hg] at this; exact Nat.lt_irrefl _ this)); have F3 := Lib.hid (F2.out.put13 E2.out (NB_en _ _ _ _ _ _) hu); have B3 := Lib.hid (B2'.out.trans (hu.below HB.out.size)); have S3 := Lib.hid (show wr.heap.size ≤ w3.heap.size from (by have h1 := E2.out.lt; have h2 := hu.size; omega)); clear hr hu)
            | ((with_reducible refine load_row (o := ⟨some 26, _, _, _, _, _⟩) rfl _ _ rfl wr.heap.size ?_ _ e.cells _ E3.out Try.underlying34 rfl ?_ ?_); (focus go_simp); (focus (exact ES.out)))
            | (go_at_call 14; refine (gappend w.heap.size _ b t c ea en ec L e l w3 G3.out HK.out F3.out).mono ?_; rw [HER.out]; rintro x w4 ⟨ea', en', ec', L', rfl, hG, heq, hft⟩; have EQ4 := Lib.hid heq; have B4 := Lib.hid (B3.out.trans (hft.below B3.out.size (fun k hk => hk.1))); have G4 : Hid (LG w4 w.heap.size (fun x => w.heap.size ≤ x ∧ x < w4.heap.size) b t c ea' en' ec' L') := Lib.hid (hG.sub (fun k hk => hk.elim (fun h => ⟨h.1, by have := hft.size; have := S3.out; have := h.2; omega⟩) (fun h => ⟨Nat.le_trans B3.out.size h.1, h.2⟩)) (fun k hk => hk.2)); clear hG heq hft))
        go_ret
        have hst := HA2.out.trans (apps_stop (by rw [HER.out]; exact hz))
        have hsame : ((lsOf b t c L).app (pe (e, l))).1 = lsOf b t c L := by
          have h1 := HER.out
          revert h1
          unfold LS.app
          split
          · intro _; rfl
          · split
            · intro h1; exact absurd h1.symm hz
            · intro _; rfl
        have h2 : (lsOf b t c L').l.length = en' := by show (L'.map pe).length = en'; rw [List.length_map]; exact G4.out.len
        have h3 : (lsOf b t c L).l.length = en := by show (L.map pe).length = en; rw [List.length_map]; exact HG.out.len
        have h4 := EQ4.out.trans hsame
        exact ⟨w.heap.size, _, ea', en', ec', L', rfl, G4.out, by rw [h4, hst], by rw [h4]; exact HK.out, by rw [G4.out.len]; rw [h4] at h2; omega, fun x hx => hx.1, B4.out⟩
    · obtain rfl : k = n := by omega
      go_wp2_with fail
      go_ret
      have h1 := HA.out
      rw [List.drop_of_length_le (by rw [HL.out]; exact Nat.le_refl _)] at h1
      exact ⟨w.heap.size, _, ea, en, ec, L, rfl, HG.out, h1.symm, HK.out, by rw [HG.out.len]; exact hek, fun x hx => hx.1, HB.out⟩
end Go.Proofs.Ytnlbdgaleibgcaa.W
