/- CONTRACTS of layer 8 (token): Read of the program. -/
import Derived.Test.YtlclkikbocbenaaDoorTokJ
import Derived.Test.YtlclkikbocbenaaDoorCavJ
set_option linter.unusedSimpArgs false
set_option linter.unusedVariables false
namespace Go.Proofs.YtlclkikbocbenaaDoor.W
open Go Go.ChangeShapes Go.WideShapes Go.ChangeAt Go.RowKit
open Go.Proofs.YtlclkikbocbenaaDoor.P (enc)

/-! ### plain: what reading a token answers -/
abbrev TkR := (Int × Int × Int × List Cv × ByteArray) × List UInt8 × Int
def finT (ln id ep : Int) (K : List Cv) (t : ByteArray) (l : List UInt8) (e : Int) : TkR :=
  if tokOk ln id ep K t then (if e ≠ 0 then (0, 0, 0, [], ⟨#[]⟩) else (ln, id, ep, K, t), l, e) else ((0, 0, 0, [], ⟨#[]⟩), failL l e 3, failE e 3)
def sR1 (l : List UInt8) (e : Int) := numR 2147483648 (numR 4 l e).2.1 (numR 4 l e).2.2
def sR2 (l : List UInt8) (e : Int) := numR 2147483648 (sR1 l e).2.1 (sR1 l e).2.2
def sR3 (l : List UInt8) (e : Int) := numR 8 (sR2 l e).2.1 (sR2 l e).2.2
def sR4 (l : List UInt8) (e : Int) := rdN (sR3 l e).1 (sR3 l e).2.1 (sR3 l e).2.2
def sR5 (l : List UInt8) (e : Int) := textR 32 (sR4 l e).2.1 (sR4 l e).2.2
def rdT (l : List UInt8) (e : Int) : TkR := finT (numR 4 l e).1 (sR1 l e).1 (sR2 l e).1 (sR4 l e).1 (str (sR5 l e).1) (sR5 l e).2.1 (sR5 l e).2.2
theorem finT_no {ln id ep : Int} {K : List Cv} {t : ByteArray} {l : List UInt8} {e : Int} (h : tokOk ln id ep K t = false) : finT ln id ep K t l e = ((0, 0, 0, [], ⟨#[]⟩), failL l e 3, failE e 3) := by unfold finT; rw [h]; rfl
theorem finT_ok {ln id ep : Int} {K : List Cv} {t : ByteArray} {l : List UInt8} (h : tokOk ln id ep K t = true) : finT ln id ep K t l 0 = ((ln, id, ep, K, t), l, 0) := by unfold finT; rw [h]; rfl
theorem finT_err {ln id ep : Int} {K : List Cv} {t : ByteArray} {l : List UInt8} {e : Int} (h : e ≠ 0) : finT ln id ep K t l e = ((0, 0, 0, [], ⟨#[]⟩), l, e) := by
  unfold finT failL failE
  rcases tokOk ln id ep K t
  · rw [if_neg (by decide), if_pos (.inl h), if_pos (.inl h)]
  · rw [if_pos rfl, if_pos h]
theorem failE_ne (e : Int) : failE e 3 ≠ 0 := by
  unfold failE
  split
  · rename_i h; simpa using h
  · decide

/-! ### memory -/
theorem NB_tok (A0 A1 A2 : Int) (a : Option Addr) (n c : Nat) (t : ByteArray) : NB (tokC A0 A1 A2 (.slice a n c) t) := by
  intro x hx
  simp [tokC, B] at hx
theorem RP.tok {w w' : World} {p g : Nat} {l : List UInt8} {e : Int} {L : List Value} (h : RP w p l e) (hq : Row w g 25 L) (hnb : NB L) (hu : Upd w w' g) : RP w' p l e := by
  obtain ⟨a, cap, hh, hr⟩ := h.ex
  have hpq : p ≠ g := by
    rintro rfl
    unfold Row at hq
    rw [hh] at hq
    simp at hq
  exact ⟨⟨a, cap, by rw [hu.block p hpq]; exact hh, hr.upd' hu (hr.apart hq (fun x hx => hnb x (by simpa using hx)))⟩, h.small, h.hnone⟩
theorem RR.tok {w w' : World} {p g : Nat} {l : List UInt8} {e : Int} {L : List Value} (h : RR w p l e) (hq : Row w g 25 L) (hnb : NB L) (hu : Upd w w' g) : RR w' p l e := by
  obtain ⟨a, cap, hh, hr⟩ := h.ex
  have hpq : p ≠ g := by
    rintro rfl
    unfold Row at hq
    rw [hh] at hq
    simp at hq
  exact ⟨⟨a, cap, by rw [hu.block p hpq]; exact hh, hr.upd' hu (hr.apart hq (fun x hx => hnb x (by simpa using hx)))⟩, h.small, h.hnone⟩
theorem FrN.upd {w w' : World} {base G : Nat} {v : Value} {L : List Cv} (h : FrN w base v L) (hu : Upd w w' G) (hG : G < base) : FrN w' base v L := by
  rcases h with h | ⟨g, cap, cur, rfl, hg, hh, r⟩
  · exact .inl h
  · exact .inr ⟨g, cap, cur, rfl, hg, by rw [hu.block g (by omega)]; exact hh, r⟩
theorem FrN.slice {w : World} {base : Nat} {v : Value} {L : List Cv} (h : FrN w base v L) : ∃ a n c, v = .slice a n c := by
  rcases h with ⟨rfl, -⟩ | ⟨g, cap, cur, rfl, -⟩
  · exact ⟨_, _, _, rfl⟩
  · exact ⟨_, _, _, rfl⟩

/-- the state of a round that reads one caveat more, by what has been done -/
structure RG (w : World) (p g2 g3 : Nat) (A0 A1 A2 : Int) (u : Value) (L : List Cv) (l : List UInt8) (e : Int) (c : Cv) (l' : List UInt8) (e' : Int) (v : World) (e0 e1 e2 e3 e4 e5 e6 e7 : Bool) (u15 u16 u17 u18 u19 u20 u21 : Value) (gb : Nat) : Prop where
  gw : Gw p w v
  r2 : Row v g2 25 (tokC 0 0 0 (.slice none 0 0) ⟨#[]⟩)
  r3 : e7 = false → Row v g3 25 (tokC A0 A1 A2 u ⟨#[]⟩)
  r3n : e7 = true → Row v g3 25 (tokC A0 A1 A2 u20 ⟨#[]⟩)
  lt : g3 < v.heap.size
  fo : e5 = false → FrN v (g3 + 1) u L
  fn : e5 = true → FrN v (g3 + 1) u20 (L ++ [c])
  po : e3 = false → RP v p l e
  pn : e3 = true → RP v p l' e'
  f0 : e0 = true → u15 = .pointer (some ⟨g3, 3, none⟩)
  f1 : e1 = true → u16 = u
  f2 : e2 = true → u17 = .pointer (some ⟨p, 0, none⟩)
  f3 : e3 = true → u18 = c.val
  f4 : e4 = true → u19 = .slice (some ⟨gb, 0, none⟩) 1 1 ∧ (e5 = false → Cvs v (some ⟨gb, 0, none⟩) 1 1 [c])
  f6 : e6 = true → u21 = .pointer (some ⟨g3, 3, none⟩)
  s4 : e4 = true → e3 = true
  s5 : e5 = true → e1 = true ∧ e4 = true
  s7 : e7 = true → e5 = true

theorem built_tok3 (a b c : Int) : Tryd.prog.built 25 [(0, .int .i64 a), (1, .int .i64 b), (2, .int .i64 c)] = some (tokC a b c (.slice none 0 0) ⟨#[]⟩).toArray := by kernel_rfl

set_option maxRecDepth 100000 in
set_option maxHeartbeats 4000000 in
theorem tkread_any (p : Nat) (l : List UInt8) (e : Int) (w : World) (h : RP w p l e) (ln idv ep : Int) (LR : List Cv) (tR : ByteArray) (lR : List UInt8) (eR : Int) (hR : rdT l e = ((ln, idv, ep, LR, tR), lR, eR)) :
    Calls Tryd.prog 23 #[.pointer (some ⟨p, 0, none⟩)] w fun x w' => ∃ a n c, x = .returned (.agg (tokC ln idv ep (.slice a n c) tR).toArray) ∧ FrN w' w.heap.size (.slice a n c) LR ∧ RP w' p lR eR ∧ Gw p w w' := by
  obtain ⟨B0, l1, e1, h0⟩ : ∃ x y z, numR 4 l e = (x, y, z) := ⟨_, _, _, rfl⟩
  obtain ⟨B1, l2, e2, h1⟩ : ∃ x y z, numR 2147483648 l1 e1 = (x, y, z) := ⟨_, _, _, rfl⟩
  obtain ⟨B2, l3, e3, h2⟩ : ∃ x y z, numR 2147483648 l2 e2 = (x, y, z) := ⟨_, _, _, rfl⟩
  obtain ⟨K, l4, e4, h3⟩ : ∃ x y z, numR 8 l3 e3 = (x, y, z) := ⟨_, _, _, rfl⟩
  obtain ⟨LK, l5, e5, h4⟩ : ∃ x y z, rdN K l4 e4 = (x, y, z) := ⟨_, _, _, rfl⟩
  obtain ⟨tx, l6, e6, h5⟩ : ∃ x y z, textR 32 l5 e5 = (x, y, z) := ⟨_, _, _, rfl⟩
  obtain ⟨t6, ht6⟩ : ∃ t6, str tx = t6 := ⟨_, rfl⟩
  have hK8 : K ≤ 8 := by
    have hx : (((numR 8 l3 e3).1 : Nat) : Int) ≤ 8 := by
      by_cases he : e3 = 0
      · subst he; exact numR_le (by decide) (Decidable.em _)
      · rw [numR_err he]; exact (by decide : ((0 : Nat) : Int) ≤ 8)
    rw [h3] at hx
    dsimp only at hx
    omega
  have hR2 : finT B0 B1 B2 LK t6 l6 e6 = ((ln, idv, ep, LR, tR), lR, eR) := by
    rw [← hR, rdT, sR5, sR4, sR3, sR2, sR1, h0]; dsimp only; rw [h1]; dsimp only; rw [h2]; dsimp only; rw [h3]; dsimp only; rw [h4]; dsimp only; rw [h5, ht6]
  have HP := Lib.hid h
  have H0 := Lib.hid h0
  have H1 := Lib.hid h1
  have H2 := Lib.hid h2
  have H3 := Lib.hid h3
  have H4 := Lib.hid h4
  have H5 := Lib.hid h5
  have HT6 := Lib.hid ht6
  have HR2 := Lib.hid hR2
  have TZ := Lib.hid tok_zero
  have TS := Lib.hid tok_size
  have PL := Lib.hid h.lt
  have PNE := Lib.hid (Nat.ne_of_gt h.lt)
  clear h h0 h1 h2 h3 h4 h5 hR hR2 ht6
  go_enter Tryd.func23, Tryd.ntmps23
  go_wp2_with ((with_reducible refine alloc_row (o := ⟨some 2, _, _, _, _, _⟩) rfl _ rfl _ TZ.out ?_); intro w1 hr1 hb1 hz1; have R1 := Lib.hid hr1; have P1 := Lib.hid (HP.out.mono hb1); have G1 := Lib.hid (Gw.of_below hb1 : Gw p w w1); clear hr1 hb1 hz1)
  refine (pnumR p 4 l e w1 P1.out).mono ?_
  rw [H0.out]
  dsimp only
  rintro x w2 ⟨rfl, hP2, hu2⟩
  have P2 := Lib.hid hP2
  have R2 := Lib.hid (R1.out.upd hu2 PNE.out)
  have G2 := Lib.hid (G1.out.trans (Gw.upd hu2))
  clear hP2 hu2
  go_wp2_with fail
  refine (pnumR p 2147483648 l1 e1 w2 P2.out).mono ?_
  rw [H1.out]
  dsimp only
  rintro x w3 ⟨rfl, hP3, hu3⟩
  have P3 := Lib.hid hP3
  have R3 := Lib.hid (R2.out.upd hu3 PNE.out)
  have G3 := Lib.hid (G2.out.trans (Gw.upd hu3))
  clear hP3 hu3
  go_wp2_with fail
  refine (pnumR p 2147483648 l2 e2 w3 P3.out).mono ?_
  rw [H2.out]
  dsimp only
  rintro x w4 ⟨rfl, hP4, hu4⟩
  have P4 := Lib.hid hP4
  have R4 := Lib.hid (R3.out.upd hu4 PNE.out)
  have G4 := Lib.hid (G3.out.trans (Gw.upd hu4))
  clear hP4 hu4
  go_wp2_with (first
    | ((with_reducible refine build_row (o := ⟨some 10, _, _, _, _, _⟩) rfl _ _ rfl (tokC B0 B1 B2 (.slice none 0 0) ⟨#[]⟩) ?_ ?_); (focus (go_simp; exact built_tok3 _ _ _)))
    | ((with_reducible refine alloc_row (o := ⟨some 3, _, _, _, _, _⟩) rfl _ rfl _ TZ.out ?_); intro w5 hr5 hb5 hz5; have S5 := Lib.hid hr5; have R5 := Lib.hid (R4.out.below hb5 R4.out.lt); have P5 := Lib.hid (P4.out.mono hb5); have G5 := Lib.hid (G4.out.trans (Gw.of_below hb5)); have NE := Lib.hid (Nat.ne_of_lt R4.out.lt); have LO := Lib.hid (show w.heap.size < w4.heap.size from R4.out.lt); clear hr5 hb5 hz5)
    | ((with_reducible refine store_row (o := ⟨none, _, _, _, _, _⟩) rfl _ (.tmp 3) _ rfl w4.heap.size (tokC B0 B1 B2 (.slice none 0 0) ⟨#[]⟩) ?_ ?_ 25 _ S5.out ?_ ?_ ?_ ?_); (focus go_simp); (focus go_simp); (focus (exact TS.out)); (focus rfl); (focus (exact tok_one _ _ _ _ _ _ _)); intro w6 hr6 hu6; have S6 := Lib.hid hr6; have R6 := Lib.hid (R5.out.upd hu6 NE.out); have P6 := Lib.hid (P5.out.tok S5.out (NB_tok _ _ _ _ _ _ _) hu6); have G6 := Lib.hid (G5.out.tail (Nat.le_of_lt LO.out) hu6); clear hr6 hu6))
  obtain ⟨g3, hg3⟩ : ∃ g3, w4.heap.size = g3 := ⟨_, rfl⟩
  rw [hg3] at S6 LO
  rw [hg3]
  clear S5 R1 R2 R3 R4 R5 P1 P2 P3 P4 P5 G1 G2 G3 G4 G5 NE hg3
  refine (pnumR p 8 l3 e3 w6 P6.out).mono ?_
  rw [H3.out]
  dsimp only
  rintro x w7 ⟨rfl, hP7, hu7⟩
  have P7 := Lib.hid hP7
  have R7 := Lib.hid (R6.out.upd hu7 PNE.out)
  have G7 := Lib.hid (G6.out.trans (Gw.upd hu7))
  have G67 : Hid (Gw p w6 w7) := Lib.hid (Gw.upd hu7)
  clear hP7 hu7
  have S7 := Lib.hid (S6.out.gw G67.out (Nat.ne_of_gt (Nat.lt_trans PL.out LO.out)))
  clear G67
  go_wp2_with fail
  go_loopw [13] (fun i wr => ∃ (n : Nat) (v : Value), i = .int .i64 (n : Int) ∧ n ≤ K ∧ Hid (Gw p w wr) ∧ Hid (Row wr w.heap.size 25 (tokC 0 0 0 (.slice none 0 0) ⟨#[]⟩)) ∧ Hid (Row wr g3 25 (tokC B0 B1 B2 v ⟨#[]⟩)) ∧ Hid (FrN wr (g3 + 1) v (rdN n l4 e4).1) ∧ Hid (RP wr p (rdN n l4 e4).2.1 (rdN n l4 e4).2.2)) (fun i _ => K - (intOf i).toNat)
  case atStart => exact ⟨0, .slice none 0 0, rfl, Nat.zero_le _, G7, R7, S7, Lib.hid (FrN.nil _ _), P7⟩
  case round =>
    obtain ⟨n, u, rfl, hn, G, R2, R3, F, P⟩ := hrel
    obtain ⟨va, vn, vc, hvs⟩ := F.out.slice
    subst hvs
    by_cases hlt : n < K
    · have hLn := rdN_len l4 e4 n
      have hsn := rdN_snoc n l4 e4
      have hst : (rdN (n + 1) l4 e4).2 = (readS (rdN n l4 e4).2.1 (rdN n l4 e4).2.2).2 := rfl
      obtain ⟨L, lq, eq, hq⟩ : ∃ x y z, rdN n l4 e4 = (x, y, z) := ⟨_, _, _, rfl⟩
      rw [hq] at F P hLn hsn hst
      dsimp only at F P hLn hsn hst
      clear hq
      have hfit := readS_fit lq eq
      have hread := fun v (hv : RP v p lq eq) => cread_any p lq eq v hv
      obtain ⟨c, l', e', hc⟩ : ∃ x y z, readS lq eq = (x, y, z) := ⟨_, _, _, rfl⟩
      rw [hc] at hfit hsn hst hread
      dsimp only at hfit hsn hst hread
      have hread2 : ∀ v, RP v p lq eq → Calls Tryd.prog 48 #[.pointer (some ⟨p, 0, none⟩)] v fun x v' => ∃ r, x = .returned r ∧ r = c.val ∧ RP v' p l' e' ∧ Gw p v v' := fun v hv => (hread v hv).mono fun x v' ⟨hx, hp, hg⟩ => ⟨_, hx, rfl, hp, hg⟩
      clear hread
      obtain ⟨kind, num, name⟩ := c
      have HSN := Lib.hid hsn
      have HST := Lib.hid hst
      have HFIT := Lib.hid hfit
      have HREAD := Lib.hid hread2
      have HLN := Lib.hid (show L.length ≤ 8 by omega)
      clear hfit hread2 hsn hst hc hLn
      go_wp2_with fail
      refine wp_region_inv (by kernel_rfl) (by kernel_rfl) (fun a0 d a' v => ∃ u15 u16 u17 u18 u19 u20 u21 gb, a' = ((((((a0.put (some 15) u15).put (some 16) u16).put (some 17) u17).put (some 18) u18).put (some 19) u19).put (some 20) u20).put (some 21) u21 ∧
        RG w p w.heap.size g3 B0 B1 B2 (.slice va vn vc) L lq eq ⟨kind, num, name⟩ l' e' v (d.getD 0 false) (d.getD 1 false) (d.getD 2 false) (d.getD 3 false) (d.getD 4 false) (d.getD 5 false) (d.getD 6 false) (d.getD 7 false) u15 u16 u17 u18 u19 u20 u21 gb) ?_ ?_ ?_
      · refine ⟨u15, u16, u17, u18, u19, u20, u21, 0, by go_simp, ?_⟩
        have hd : Below wr.heap.size wr wr.drew := (Below.refl _ _).drew
        exact { gw := G.out.trans (Gw.of_below hd), r2 := R2.out.below hd R2.out.lt, r3 := fun _ => R3.out.below hd R3.out.lt, r3n := fun h => by cases h
                lt := Nat.lt_of_lt_of_le R3.out.lt hd.size, fo := fun _ => F.out.kept hd, fn := fun h => by cases h
                po := fun _ => P.out.mono hd
                pn := fun h => by cases h
                f0 := fun h => by cases h
                f1 := fun h => by cases h
                f2 := fun h => by cases h
                f3 := fun h => by cases h
                f4 := fun h => by cases h
                f6 := fun h => by cases h
                s4 := fun h => by cases h
                s5 := fun h => by cases h
                s7 := fun h => by cases h }
      · intro d a' v i o hs hI ho hu he M hM
        obtain ⟨u15, u16, u17, u18, u19, u20, u21, gb, rfl, x⟩ := hI
        obtain ⟨dl⟩ := d
        match dl, hs with
        | [e0, e1, e2, e3, e4, e5, e6, e7], _ =>
        have x : RG w p w.heap.size g3 B0 B1 B2 (.slice va vn vc) L lq eq ⟨kind, num, name⟩ l' e' v e0 e1 e2 e3 e4 e5 e6 e7 u15 u16 u17 u18 u19 u20 u21 gb := x
        have hread := HREAD.out
        have hfit := HFIT.out
        have hg2 : w.heap.size ≠ p := Nat.ne_of_gt PL.out
        have hg3 : g3 ≠ p := Nat.ne_of_gt (Nat.lt_trans PL.out LO.out)
        have hg23 : w.heap.size < g3 := LO.out
        have hi : i < 8 := by have := (List.getElem?_eq_some_iff.1 ho).1; simpa using this
        have hi' : i = 0 ∨ i = 1 ∨ i = 2 ∨ i = 3 ∨ i = 4 ∨ i = 5 ∨ i = 6 ∨ i = 7 := by omega
        have hlow : w.heap.size ≤ g3 + 1 := by omega
        have hlow3 : w.heap.size ≤ g3 := by omega
        have hL8 := HLN.out
        rcases hi' with rfl | rfl | rfl | rfl | rfl | rfl | rfl | rfl
        all_goals
          simp only [List.getElem?_cons_zero, List.getElem?_cons_succ, Option.some.injEq] at ho
          subst ho
          simp [Region.binds] at he hu
        · -- 0
          refine val_list rfl (.pointer (some ⟨g3, 3, none⟩)) (by go_simp) ?_
          refine hM _ _ ⟨(.pointer (some ⟨g3, 3, none⟩)), u16, u17, u18, u19, u20, u21, gb, by go_simp, ?_⟩
          show RG w p w.heap.size g3 B0 B1 B2 (.slice va vn vc) L lq eq ⟨kind, num, name⟩ l' e' v true e1 e2 e3 e4 e5 e6 e7 (.pointer (some ⟨g3, 3, none⟩)) u16 u17 u18 u19 u20 u21 gb
          exact { x with f0 := fun _ => rfl }
        · -- 1
          have h0 := x.f0 he
          subst h0
          have h5 : e5 = false := by rcases e5 with _ | _; rfl; have := (x.s5 rfl).1; rw [hu] at this; cases this
          have h7 : e7 = false := by rcases e7 with _ | _; rfl; have := x.s7 rfl; rw [h5] at this; cases this
          have c3 := (x.r3 h7).cellV 3
          simp only [tokC, List.getElem?_cons_zero, List.getElem?_cons_succ] at c3
          refine val_list rfl (.slice va vn vc) (by go_simp) ?_
          refine hM _ _ ⟨(.pointer (some ⟨g3, 3, none⟩)), (.slice va vn vc), u17, u18, u19, u20, u21, gb, by go_simp, ?_⟩
          show RG w p w.heap.size g3 B0 B1 B2 (.slice va vn vc) L lq eq ⟨kind, num, name⟩ l' e' v e0 true e2 e3 e4 e5 e6 e7 (.pointer (some ⟨g3, 3, none⟩)) (.slice va vn vc) u17 u18 u19 u20 u21 gb
          exact { x with f1 := fun _ => rfl, s5 := fun h => by rw [h5] at h; cases h }
        · -- 2
          refine val_list rfl (.pointer (some ⟨p, 0, none⟩)) (by go_simp) ?_
          refine hM _ _ ⟨u15, u16, (.pointer (some ⟨p, 0, none⟩)), u18, u19, u20, u21, gb, by go_simp, ?_⟩
          show RG w p w.heap.size g3 B0 B1 B2 (.slice va vn vc) L lq eq ⟨kind, num, name⟩ l' e' v e0 e1 true e3 e4 e5 e6 e7 u15 u16 (.pointer (some ⟨p, 0, none⟩)) u18 u19 u20 u21 gb
          exact { x with f2 := fun _ => rfl }
        · -- 3
          have h2 := x.f2 he
          subst h2
          have h4 : e4 = false := by rcases e4 with _ | _; rfl; have := x.s4 rfl; rw [hu] at this; cases this
          have h5 : e5 = false := by rcases e5 with _ | _; rfl; have := (x.s5 rfl).2; rw [h4] at this; cases this
          have h7 : e7 = false := by rcases e7 with _ | _; rfl; have := x.s7 rfl; rw [h5] at this; cases this
          refine call_list rfl 48 #[.pointer (some ⟨p, 0, none⟩)] (by go_simp) (fun r w' => r = (⟨kind, num, name⟩ : Cv).val ∧ RP w' p l' e' ∧ Gw p v w') (hread v (x.po hu)) ?_
          rintro r w' ⟨rfl, hp, hg⟩
          refine hM _ _ ⟨u15, u16, (.pointer (some ⟨p, 0, none⟩)), (⟨kind, num, name⟩ : Cv).val, u19, u20, u21, gb, by go_simp, ?_⟩
          show RG w p w.heap.size g3 B0 B1 B2 (.slice va vn vc) L lq eq ⟨kind, num, name⟩ l' e' w' e0 e1 e2 true e4 e5 e6 e7 u15 u16 (.pointer (some ⟨p, 0, none⟩)) (⟨kind, num, name⟩ : Cv).val u19 u20 u21 gb
          exact { gw := x.gw.trans hg, r2 := x.r2.gw hg hg2, r3 := fun _ => (x.r3 h7).gw hg hg3, r3n := fun h => by rw [h7] at h; cases h
                  lt := Nat.lt_of_lt_of_le x.lt hg.size, fo := fun _ => (x.fo h5).rp (x.po hu) hg, fn := fun h => by rw [h5] at h; cases h
                  po := fun h => by cases h
                  pn := fun _ => hp, f0 := x.f0, f1 := x.f1, f2 := x.f2, f3 := fun _ => rfl, f4 := fun h => by rw [h4] at h; cases h
                  f6 := x.f6, s4 := fun _ => rfl, s5 := x.s5, s7 := x.s7 }
        · -- 4
          have h3 : u18 = .agg #[.int .i64 kind, .int .i64 num, .string name] := x.f3 he
          subst h3
          have h5 : e5 = false := by rcases e5 with _ | _; rfl; have := (x.s5 rfl).2; rw [hu] at this; cases this
          have h7 : e7 = false := by rcases e7 with _ | _; rfl; have := x.s7 rfl; rw [h5] at this; cases this
          obtain ⟨i0, hi0, hz0, hz1, hz2⟩ := info_parts infoCv
          refine wpList_buildSlice rfl 23 49 1 _ rfl #[.int .i64 kind, .int .i64 num, .string name] i0 _ Tryd.underlying23 hi0 hz0 (by rw [hz1]; decide) (by rw [hz1]; decide) (by rw [hz1]; go_simp; first | done | rfl) ?_
          have hb : Below v.heap.size v (v.alloc (.cells #[.int .i64 kind, .int .i64 num, .string name] 49)) := (Below.refl _ _).alloc (Nat.le_refl _) _
          refine hM _ _ ⟨u15, u16, u17, (.agg #[.int .i64 kind, .int .i64 num, .string name]), (.slice (some ⟨v.heap.size, 0, none⟩) 1 1), u20, u21, v.heap.size, by go_simp, ?_⟩
          show RG w p w.heap.size g3 B0 B1 B2 (.slice va vn vc) L lq eq ⟨kind, num, name⟩ l' e' (v.alloc (.cells #[.int .i64 kind, .int .i64 num, .string name] 49)) e0 e1 e2 e3 true e5 e6 e7 u15 u16 u17 (.agg #[.int .i64 kind, .int .i64 num, .string name]) (.slice (some ⟨v.heap.size, 0, none⟩) 1 1) u20 u21 v.heap.size
          exact { gw := x.gw.trans (Gw.of_below hb), r2 := x.r2.below hb x.r2.lt, r3 := fun h => (x.r3 h).below hb x.lt, r3n := fun h => by rw [h7] at h; cases h
                  lt := Nat.lt_of_lt_of_le x.lt hb.size, fo := fun h => (x.fo h).kept hb, fn := fun h => by rw [h5] at h; cases h
                  po := fun h => (x.po h).mono hb
                  pn := fun h => (x.pn h).mono hb, f0 := x.f0, f1 := x.f1, f2 := x.f2, f3 := fun _ => rfl, f4 := fun _ => ⟨rfl, fun _ => cvs_new v ⟨kind, num, name⟩ hfit⟩
                  f6 := x.f6, s4 := fun _ => he, s5 := fun h => by rw [h5] at h; cases h
                  s7 := x.s7 }
        · -- 5
          have h1 := x.f1 he.1
          obtain ⟨h4, hc⟩ := x.f4 he.2.1
          subst h1 h4
          have h7 : e7 = false := by rcases e7 with _ | _; rfl; have := x.s7 rfl; rw [hu] at this; cases this
          have h3 := x.s4 he.2.1
          refine append_frn rfl _ _ rfl (g3 + 1) (.slice va vn vc) L (by go_simp) (x.fo hu) ⟨gb, 0, none⟩ 1 1 [⟨kind, num, name⟩] (by go_simp) (hc hu) (by decide) (by omega) (Nat.succ_le_of_lt x.lt) ?_
          intro v' w' hf hb hgr
          refine hM _ _ ⟨u15, (.slice va vn vc), u17, u18, (.slice (some ⟨gb, 0, none⟩) 1 1), v', u21, gb, by go_simp, ?_⟩
          show RG w p w.heap.size g3 B0 B1 B2 (.slice va vn vc) L lq eq ⟨kind, num, name⟩ l' e' w' e0 e1 e2 e3 e4 true e6 e7 u15 (.slice va vn vc) u17 u18 (.slice (some ⟨gb, 0, none⟩) 1 1) v' u21 gb
          exact { gw := x.gw.on (hb.mono hlow), r2 := x.r2.below hb (Nat.lt_succ_of_lt hg23), r3 := fun h => (x.r3 h).below hb (Nat.lt_succ_self _), r3n := fun h => by rw [h7] at h; cases h
                  lt := Nat.lt_of_lt_of_le x.lt hb.size, fo := fun h => by cases h
                  fn := fun _ => hf, po := fun h => by rw [h3] at h; cases h
                  pn := fun h => (x.pn h).own (x.fo hu) hgr, f0 := x.f0, f1 := fun _ => rfl, f2 := x.f2, f3 := x.f3, f4 := fun _ => ⟨rfl, fun h => by cases h⟩
                  f6 := x.f6, s4 := x.s4, s5 := fun _ => ⟨he.1, he.2.1⟩, s7 := fun _ => rfl }
        · -- 6
          refine val_list rfl (.pointer (some ⟨g3, 3, none⟩)) (by go_simp) ?_
          refine hM _ _ ⟨u15, u16, u17, u18, u19, u20, (.pointer (some ⟨g3, 3, none⟩)), gb, by go_simp, ?_⟩
          show RG w p w.heap.size g3 B0 B1 B2 (.slice va vn vc) L lq eq ⟨kind, num, name⟩ l' e' v e0 e1 e2 e3 e4 e5 true e7 u15 u16 u17 u18 u19 u20 (.pointer (some ⟨g3, 3, none⟩)) gb
          exact { x with f6 := fun _ => rfl }
        · -- 7
          have h6 := x.f6 (by first | exact he.1 | simp_all)
          subst h6
          have h5 : e5 = true := by first | exact he.2.1 | simp_all
          obtain ⟨ua, un, uc, rfl⟩ := (x.fn h5).slice
          have h3 := x.s4 (x.s5 h5).2
          refine store_cell rfl _ _ _ rfl g3 3 (.slice ua un uc) (by go_simp) (by go_simp) rfl rfl 25 _ (x.r3 hu) infoCvs (by simp [tokC]) ?_
          intro w' hr hup
          refine hM _ _ ⟨u15, u16, u17, u18, u19, (.slice ua un uc), (.pointer (some ⟨g3, 3, none⟩)), gb, by go_simp, ?_⟩
          show RG w p w.heap.size g3 B0 B1 B2 (.slice va vn vc) L lq eq ⟨kind, num, name⟩ l' e' w' e0 e1 e2 e3 e4 e5 e6 true u15 u16 u17 u18 u19 (.slice ua un uc) (.pointer (some ⟨g3, 3, none⟩)) gb
          exact { gw := x.gw.tail hlow3 hup, r2 := x.r2.upd hup (Nat.ne_of_lt hg23), r3 := fun h => by cases h
                  r3n := fun _ => hr, lt := by rw [hup.size]; exact x.lt
                  fo := fun h => by rw [h5] at h; cases h
                  fn := fun _ => (x.fn h5).upd hup (Nat.lt_succ_self _), po := fun h => by rw [h3] at h; cases h
                  pn := fun _ => (x.pn h3).tok (x.r3 hu) (NB_tok _ _ _ _ _ _ _) hup, f0 := x.f0, f1 := x.f1, f2 := x.f2, f3 := x.f3, f4 := fun h => ⟨(x.f4 h).1, fun h => by rw [h5] at h; cases h⟩
                  f6 := fun _ => rfl, s4 := x.s4, s5 := x.s5, s7 := fun _ => h5 }
      · intro a' v hI
        obtain ⟨u15, u16, u17, u18, u19, u20, u21, gb, rfl, xx⟩ := hI
        have x : RG w p w.heap.size g3 B0 B1 B2 (.slice va vn vc) L lq eq ⟨kind, num, name⟩ l' e' v true true true true true true true true u15 u16 u17 u18 u19 u20 u21 gb := xx
        have XG := Lib.hid x.gw
        have XR2 := Lib.hid x.r2
        have XR3 := Lib.hid (x.r3n rfl)
        have XF := Lib.hid (x.fn rfl)
        have XP := Lib.hid (x.pn rfl)
        clear x xx
        go_simp
        go_wp2_with fail
        go_roundw
        case rel => exact ⟨n + 1, u20, vint (by omega), by omega, XG, XR2, XR3, Lib.hid (by rw [← HSN.out]; exact XF.out), Lib.hid (by rw [HST.out]; exact XP.out)⟩
        case measure => simp [intOf]; omega
    · obtain rfl : n = K := by omega
      have hfits := rdN_fit l4 e4 n
      rw [H4.out] at F P hfits
      dsimp only at F P hfits
      go_wp2_with fail
      refine (ptextR p 32 l5 e5 wr P.out).mono ?_
      rw [H5.out]
      dsimp only
      rw [HT6.out]
      rintro x w8 ⟨rfl, hP8, hu8⟩
      have R8 := Lib.hid (R2.out.upd hu8 PNE.out)
      have S8 := R3.out.upd hu8 (Nat.ne_of_gt (Nat.lt_trans PL.out LO.out))
      have F8 := F.out.rp P.out (Gw.upd hu8)
      have G8 := G.out.trans (Gw.upd hu8)
      have hu9 : Upd w8 (w8.setCell ⟨g3, 4, none⟩ (.string t6)) g3 := Upd.setCell _ _ _ _
      have S9 := Lib.hid (show Row (w8.setCell ⟨g3, 4, none⟩ (.string t6)) g3 25 (tokC B0 B1 B2 (.slice va vn vc) t6) from S8.setV 4 _)
      have P9 := Lib.hid (hP8.tok S8 (NB_tok _ _ _ _ _ _ _) hu9)
      have R9 := Lib.hid (R8.out.upd hu9 (Nat.ne_of_lt LO.out))
      have F9 := Lib.hid (F8.upd hu9 (Nat.lt_succ_self _))
      have G9 := Lib.hid (G8.tail (Nat.le_of_lt LO.out) hu9)
      obtain ⟨a9, c9, hv9, hc9⟩ := F9.out.frc.cvs hfits
      obtain ⟨rfl, rfl, rfl⟩ : va = a9 ∧ vn = LK.length ∧ vc = c9 := by simpa using hv9
      have CV9 := Lib.hid hc9
      have z4 := S8.frozen 4
      obtain ⟨x0, x1, x2, x3, x4⟩ := S8.t5
      clear hP8 hu8 F8 G8 hu9 hc9 hv9 R8 S8 F G P R2 R3 hfits
      rcases hok : tokOk B0 B1 B2 LK t6 with _ | _
      · have hR := HR2.out
        rw [finT_no hok] at hR
        simp only [Prod.mk.injEq] at hR
        obtain ⟨⟨rfl, rfl, rfl, rfl, rfl⟩, rfl, rfl⟩ := hR
        have HE := Lib.hid (tokErr_no hok)
        obtain ⟨EE, hEE⟩ : ∃ EE, failE e6 3 = EE := ⟨_, rfl⟩
        have hne : (EE != 0) = true := by rw [← hEE]; simpa using failE_ne e6
        have HEE := Lib.hid hEE
        clear hok hEE HR2
        go_wp2_with (first
          | (go_at_call 35; refine (tkcheck_any B0 B1 B2 va LK.length vc LK t6 _ CV9.out).mono ?_; rw [HE.out]; rintro x w10 ⟨rfl, hb10⟩; have P10 := Lib.hid (P9.out.mono hb10); have R10 := Lib.hid (R9.out.below hb10 R9.out.lt); have G10 := Lib.hid (G9.out.trans (Gw.of_below hb10)); clear hb10 x0 x1 x2 x3 x4 z4)
          | (go_at_call 50; refine (pfail p l6 e6 3 w10 P10.out).mono ?_; rw [HEE.out]; rintro x w11 ⟨rfl, hP11, hu11⟩; have P11 := Lib.hid hP11; have R11 := Lib.hid (R10.out.upd hu11 PNE.out); have G11 := Lib.hid (G10.out.trans (Gw.upd hu11)); clear hP11 hu11)
          | (go_at_call 27; refine (perr p _ _ w11 P11.out).mono ?_; rintro x wq ⟨rfl, rfl⟩)
          | ((with_reducible refine build_row (o := ⟨some 34, _, _, _, _, _⟩) rfl _ _ rfl [.int .i64 0, .int .i64 0, .int .i64 0, .slice none 0 0, .string ⟨#[]⟩] ?_ ?_); (focus (go_simp; exact built_none)))
          | ((with_reducible refine store_row (o := ⟨none, _, _, _, _, _⟩) rfl _ (.tmp 2) _ rfl w.heap.size [.int .i64 0, .int .i64 0, .int .i64 0, .slice none 0 0, .string ⟨#[]⟩] ?_ ?_ 25 _ R11.out ?_ ?_ ?_ ?_); (focus go_simp); (focus go_simp); (focus (exact TS.out)); (focus rfl); (focus (exact tok_one _ _ _ _ _ _ _)); intro w12 hr12 hu12; have R12 := Lib.hid hr12; have P12 := Lib.hid (P11.out.tok R11.out (NB_tok _ _ _ _ _ _ _) hu12); have G12 := Lib.hid (G11.out.tail (Nat.le_refl _) hu12); clear hr12 hu12))
        exact bodyPost_ret (results_cell_row rfl _ _ w.heap.size 25 _ _ _ (by go_simp) R12.out Tryd.underlying25 rfl TS.out) rfl ⟨none, 0, 0, rfl, FrN.nil _ _, by rw [HEE.out]; exact P12.out, G12.out⟩
      · have HE := Lib.hid (tokErr_ok hok)
        by_cases he6 : e6 = 0
        · subst he6
          have hR := HR2.out
          rw [finT_ok hok] at hR
          simp only [Prod.mk.injEq] at hR
          obtain ⟨⟨rfl, rfl, rfl, rfl, rfl⟩, rfl, rfl⟩ := hR
          clear hok HR2
          go_wp2_with (first
            | (go_at_call 35; refine (tkcheck_any B0 B1 B2 va LK.length vc LK t6 _ CV9.out).mono ?_; rw [HE.out]; rintro x w10 ⟨rfl, hb10⟩; have P10 := Lib.hid (P9.out.mono hb10); have R10 := Lib.hid (R9.out.below hb10 R9.out.lt); have S10 := Lib.hid (S9.out.below hb10 S9.out.lt); have F10 := Lib.hid (F9.out.kept hb10); have G10 := Lib.hid (G9.out.trans (Gw.of_below hb10)); clear hb10 x0 x1 x2 x3 x4 z4; obtain ⟨x0, x1, x2, x3, x4⟩ := S10.out.t5)
            | (go_at_call 27; refine (perr p _ _ w10 P10.out).mono ?_; rintro x wq ⟨rfl, rfl⟩)
            | ((with_reducible refine store_row (o := ⟨none, _, _, _, _, _⟩) rfl _ (.tmp 2) _ rfl w.heap.size (tokC B0 B1 B2 (.slice va LK.length vc) t6) ?_ ?_ 25 _ R10.out ?_ ?_ ?_ ?_); (focus go_simp); (focus (go_simp; rfl)); (focus (exact TS.out)); (focus rfl); (focus (exact tok_one _ _ _ _ _ _ _)); intro w12 hr12 hu12; have R12 := Lib.hid hr12; have P12 := Lib.hid (P10.out.tok R10.out (NB_tok _ _ _ _ _ _ _) hu12); have F12 := Lib.hid (F10.out.upd hu12 (Nat.lt_succ_of_lt LO.out)); have G12 := Lib.hid (G10.out.tail (Nat.le_refl _) hu12); clear hr12 hu12))
          exact bodyPost_ret (results_cell_row rfl _ _ w.heap.size 25 _ _ _ (by go_simp) R12.out Tryd.underlying25 rfl TS.out) rfl ⟨va, LK.length, vc, rfl, F12.out.base (Nat.le_succ_of_le (Nat.le_of_lt LO.out)), P12.out, G12.out⟩
        · have hR := HR2.out
          rw [finT_err he6] at hR
          simp only [Prod.mk.injEq] at hR
          obtain ⟨⟨rfl, rfl, rfl, rfl, rfl⟩, rfl, rfl⟩ := hR
          have hne : (e6 != 0) = true := by simpa using he6
          clear hok HR2 he6
          go_wp2_with (first
            | (go_at_call 35; refine (tkcheck_any B0 B1 B2 va LK.length vc LK t6 _ CV9.out).mono ?_; rw [HE.out]; rintro x w10 ⟨rfl, hb10⟩; have P10 := Lib.hid (P9.out.mono hb10); have R10 := Lib.hid (R9.out.below hb10 R9.out.lt); have G10 := Lib.hid (G9.out.trans (Gw.of_below hb10)); clear hb10 x0 x1 x2 x3 x4 z4)
            | (go_at_call 27; refine (perr p _ _ w10 P10.out).mono ?_; rintro x wq ⟨rfl, rfl⟩)
            | ((with_reducible refine build_row (o := ⟨some 34, _, _, _, _, _⟩) rfl _ _ rfl [.int .i64 0, .int .i64 0, .int .i64 0, .slice none 0 0, .string ⟨#[]⟩] ?_ ?_); (focus (go_simp; exact built_none)))
            | ((with_reducible refine store_row (o := ⟨none, _, _, _, _, _⟩) rfl _ (.tmp 2) _ rfl w.heap.size [.int .i64 0, .int .i64 0, .int .i64 0, .slice none 0 0, .string ⟨#[]⟩] ?_ ?_ 25 _ R10.out ?_ ?_ ?_ ?_); (focus go_simp); (focus go_simp); (focus (exact TS.out)); (focus rfl); (focus (exact tok_one _ _ _ _ _ _ _)); intro w12 hr12 hu12; have R12 := Lib.hid hr12; have P12 := Lib.hid (P10.out.tok R10.out (NB_tok _ _ _ _ _ _ _) hu12); have G12 := Lib.hid (G10.out.tail (Nat.le_refl _) hu12); clear hr12 hu12))
          exact bodyPost_ret (results_cell_row rfl _ _ w.heap.size 25 _ _ _ (by go_simp) R12.out Tryd.underlying25 rfl TS.out) rfl ⟨none, 0, 0, rfl, FrN.nil _ _, P12.out, G12.out⟩

end Go.Proofs.YtlclkikbocbenaaDoor.W
