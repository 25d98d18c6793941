/- LAYER 20 (manifest): readPiece, lists.Read of pieces, ReadPieces of the program. LAYER 20 (manifest): readSnap, lists.Read of snaps, Read of the program. LAYER 20 (manifest): plain: what was put reads back; added and removed again; a snapshot as it comes in. -/
import Derived.Test.YtjolmjbhpokgmaaGreatMfPr
import Derived.Test.YtjolmjbhpokgmaaGreatMfY
import Derived.Test.YtjolmjbhpokgmaaGreatLn
import Derived.Test.YtjolmjbhpokgmaaGreatPackR5
import Derived.Test.YtjolmjbhpokgmaaGreatMfA
import Derived.Test.YtjolmjbhpokgmaaGreatMfG
import Derived.Test.YtjolmjbhpokgmaaGreatMfFw
import Derived.Test.YtjolmjbhpokgmaaGreatMfU
set_option linter.unusedSimpArgs false
set_option linter.unusedVariables false
namespace Go.Proofs.YtjolmjbhpokgmaaGreat.W
open Go Go.ChangeShapes Go.WideShapes Go.ChangeAt Go.RowKit
open Go.Proofs.YtjolmjbhpokgmaaGreat.P (enc dec)
open Go.Proofs.YtjolmjbhpokgmaaGreat.S

end Go.Proofs.YtjolmjbhpokgmaaGreat.W

namespace Go.Proofs.YtjolmjbhpokgmaaGreat.W
open Go Go.ChangeShapes Go.WideShapes Go.ChangeAt Go.RowKit
open Go.Proofs.YtjolmjbhpokgmaaGreat.P (enc dec)
open Go.Proofs.YtjolmjbhpokgmaaGreat.S

theorem snNb : snE.Nb where
  z := by intro x hx; simp [Value.cells, B] at hx
  c := by intro s x hx; simp [B] at hx
  p := by decide
theorem nob_sn (sp nm : ByteArray) (b t k : Int) (a : Option Addr) (m c : Nat) : NoB (snC sp nm b t k a m c) := by intro x hx; simp [B] at hx
/-- they stay where another list alone is written -/
theorem LsN.ownK {α β : Type} {E : El α} {F : El β} {w w' : World} {b b' : Nat} {v u : Value} {L : List α} {M : List β} (h : LsN E w b v L) (hF : LsN F w b' u M) (ht : E.eT ≠ F.eT) (hg : w.grownBy w' u.ownBlock) : LsN E w' b v L := by
  rcases h with h | ⟨g, cap, cur, rfl, hb, hh, r⟩
  · exact .inl h
  · refine .inr ⟨g, cap, cur, rfl, hb, ?_, r⟩
    have hlt := (Array.getElem?_eq_some_iff.1 hh).1
    rw [hg.block g hlt (fun e => ?_)]
    · exact hh
    · rcases hF with ⟨rfl, -⟩ | ⟨g2, cap2, cur2, rfl, -, hh2, -⟩
      · simp [Value.ownBlock] at e
      · have e2 : g2 = g := by simpa [Value.ownBlock] using e.symm
        subst e2
        rw [hh] at hh2
        simp at hh2
        exact ht hh2.2
/-- a snapshot whose pieces the call made, no byte among them -/
structure OwnN (w : World) (base : Nat) (x : SnX) : Prop where
  sp : x.s.sp.size ≤ maxLen
  nm : x.s.nm.size ≤ maxLen
  by' : SI64 x.s.by'
  ti : SI64 x.s.ti
  ke : SI64 x.s.ke
  len : x.s.P.length = x.m
  pf : ∀ p ∈ x.s.P, p.fit
  own : LsN pcE w base (.slice x.a x.m x.c) x.s.P
theorem OwnN.x {w : World} {base : Nat} {x : SnX} (h : OwnN w base x) : OwnX w base x := ⟨h.sp, h.nm, h.by', h.ti, h.ke, h.len, h.pf, h.own.lso pcOk⟩
theorem OwnN.own' {w w' : World} {base base' : Nat} {x : SnX} (h : OwnN w base x) (ho : LsN pcE w' base' (.slice x.a x.m x.c) x.s.P) : OwnN w' base' x := ⟨h.sp, h.nm, h.by', h.ti, h.ke, h.len, h.pf, ho⟩
/-- snapshots that the call read -/
def SnN (w : World) (base : Nat) (v : Value) (L : List Sn) : Prop := ∃ X : List SnX, LsN snE w base v X ∧ X.map (·.s) = L ∧ ∀ x ∈ X, OwnN w base x
theorem SnN.o {w : World} {base : Nat} {v : Value} {L : List Sn} (h : SnN w base v L) : SnO w base v L := by
  obtain ⟨X, h1, h2, h3⟩ := h
  exact ⟨X, h1.lso snOk, h2, fun x hx => (h3 x hx).x⟩
theorem SnN.snl' {w : World} {base : Nat} {a : Option Addr} {m c : Nat} {L : List Sn} (h : SnN w base (.slice a m c) L) (hl : L.length = m) : SnL w a m c L := by
  obtain ⟨a', c', hv, hs⟩ := h.o.snl
  rw [hl] at hv hs
  injection hv with h1 h2 h3
  subst h1 h3
  exact hs
theorem SnN.nil (w : World) (base : Nat) : SnN w base (.slice none 0 0) [] := ⟨[], LsN.nil _ _, rfl, by simp⟩
theorem SnN.kept {w w' : World} {base : Nat} {v : Value} {L : List Sn} (h : SnN w base v L) (hb : Below w.heap.size w w') : SnN w' base v L := by
  obtain ⟨X, h1, h2, h3⟩ := h
  exact ⟨X, h1.kept hb, h2, fun x hx => (h3 x hx).own' ((h3 x hx).own.kept hb)⟩
theorem SnN.base {w : World} {base base' : Nat} {v : Value} {L : List Sn} (h : SnN w base v L) (hb : base' ≤ base) : SnN w base' v L := by
  obtain ⟨X, h1, h2, h3⟩ := h
  exact ⟨X, h1.base hb, h2, fun x hx => (h3 x hx).own' ((h3 x hx).own.base hb)⟩
theorem SnN.rp {w w' : World} {base p : Nat} {v : Value} {L : List Sn} {l : List UInt8} {e : Int} (h : SnN w base v L) (hp : RP w p l e) (hu : Gw p w w') : SnN w' base v L := by
  obtain ⟨X, h1, h2, h3⟩ := h
  exact ⟨X, h1.rp snNb hp hu, h2, fun x hx => (h3 x hx).own' ((h3 x hx).own.rp pcNb hp hu)⟩
theorem RP.ownS {w w' : World} {p base : Nat} {v : Value} {L : List Sn} {l : List UInt8} {e : Int} (h : RP w p l e) (hv : SnN w base v L) (hg : w.grownBy w' v.ownBlock) : RP w' p l e := by
  obtain ⟨X, h1, h2, h3⟩ := hv
  exact RP.ownL snNb h h1 hg
/-- as in lists.Read: a list of one behind them -/
theorem append_snn {w : World} {ops : Array Oper} {rest : List Oper} {o : Oper} {a : Act} {Q : Exit → Act → World → Prop} (hgd : o.guard = none) (s x : Operand)
    (ho : o.op = .call { callee := .builtin .append, args := #[s, x], argTypes := #[22, 22] })
    (base : Nat) (v : Value) (L : List Sn) (hs : a.eval s = v) (hown : SnN w base v L)
    (b off : Nat) (m c : Nat) (y : SnX) (hx : a.eval x = .slice (some ⟨b, off, none⟩) m c) (hr : Ls snE w (some ⟨b, off, none⟩) m c [y]) (hy : OwnN w base y) (hm0 : 0 < m) (hmax : L.length + m ≤ 1000000) (hbase : base ≤ w.heap.size)
    (h : ∀ v' w', SnN w' base v' (L ++ [y.s]) → Below base w w' → w.grownBy w' v.ownBlock → wpList Tryz.prog ops Q rest (a.put o.dst v') w') : wpList Tryz.prog ops Q (o :: rest) a w := by
  obtain ⟨X, h1, h2, h3⟩ := hown
  have hXl : X.length = L.length := by rw [← h2, List.length_map]
  refine append_lsn snOk snNb hgd s x ho base v X hs h1 b off m c [y] hx hr hm0 (by omega) hbase (fun v' w' hN hb hg => h v' w' ⟨X ++ [y], hN, by rw [List.map_append, h2]; rfl, fun z hz => ?_⟩ hb hg)
  rcases List.mem_append.1 hz with hz | hz
  · exact (h3 z hz).own' ((h3 z hz).own.ownK h1 (by decide) hg)
  · have hz := List.mem_singleton.1 hz
    subst hz
    exact hy.own' (hy.own.ownK h1 (by decide) hg)
/-- a snapshot as it is read -/
def rdSn (l : List UInt8) (e : Int) : Sn × List UInt8 × Int :=
  let a := textR 16 l e; let b := textR 16 a.2.1 a.2.2; let c := numR 1099511627776 b.2.1 b.2.2; let d := numR 1099511627776 c.2.1 c.2.2; let k := numR 1099511627776 d.2.1 d.2.2
  (⟨str a.1, str b.1, (c.1 : Int), (d.1 : Int), (k.1 : Int), (rdPL k.2.1 k.2.2).1⟩, (rdPL k.2.1 k.2.2).2)
def rdSns : Nat → List UInt8 → Int → List Sn × List UInt8 × Int
  | 0, l, e => ([], l, e)
  | n + 1, l, e => ((rdSns n l e).1 ++ [(rdSn (rdSns n l e).2.1 (rdSns n l e).2.2).1], (rdSn (rdSns n l e).2.1 (rdSns n l e).2.2).2)
def rdSL (l : List UInt8) (e : Int) : List Sn × List UInt8 × Int := let k := numR 12 l e; (lsLm (rdSns k.1 k.2.1 k.2.2), (rdSns k.1 k.2.1 k.2.2).2)
def endM (q : List Sn × List UInt8 × Int) : List Sn × List UInt8 × Int := if q.2.2 = 0 then if checkM q.1 = true then q else ([], [], 3) else ([], q.2)
def readM (l : List UInt8) (e : Int) : List Sn × List UInt8 × Int := endM (rdSL l e)
theorem rdSns_len (l : List UInt8) (e : Int) : ∀ n, (rdSns n l e).1.length = n
  | 0 => rfl
  | n + 1 => by simp [rdSns, rdSns_len l e n]
theorem pbuiltSn (s t : ByteArray) (a b c : Int) (x : Option Addr) (m k : Nat) : Tryz.prog.built 45 [(0, .string s), (1, .string t), (2, .int .i64 a), (3, .int .i64 b), (4, .int .i64 c), (5, .slice x m k)] = some (snC s t a b c x m k).toArray := by kernel_rfl
set_option maxRecDepth 100000 in
set_option maxHeartbeats 8000000 in
theorem preadsnap (p : Nat) (l : List UInt8) (e : Int) (w : World) (h : RP w p l e) :
    Calls Tryz.prog 32 #[.pointer (some ⟨p, 0, none⟩)] w fun x w' => ∃ y : SnX, x = .returned (.agg y.cells.toArray) ∧ y.s = (rdSn l e).1 ∧ OwnN w' w.heap.size y ∧ RP w' p (rdSn l e).2.1 (rdSn l e).2.2 ∧ Gw p w w' := by
  have H := Lib.hid h
  have HSZ := Lib.hid sn_size
  have MZ := Lib.hid sn_zero
  have hpl := h.lt
  have hm1 := textR_sizeM 16 (by decide) l e
  obtain ⟨t1, l1, e1, hq1⟩ : ∃ x y z, textR 16 l e = (x, y, z) := ⟨_, _, _, rfl⟩
  rw [hq1] at hm1
  dsimp only at hm1
  have HQ1 := Lib.hid hq1
  have hm2 := textR_sizeM 16 (by decide) l1 e1
  obtain ⟨t2, l2, e2, hq2⟩ : ∃ x y z, textR 16 l1 e1 = (x, y, z) := ⟨_, _, _, rfl⟩
  rw [hq2] at hm2
  dsimp only at hm2
  have HQ2 := Lib.hid hq2
  have hm3 := numR_leM 1099511627776 (by decide) l2 e2
  obtain ⟨n3, l3, e3, hq3⟩ : ∃ x y z, numR 1099511627776 l2 e2 = (x, y, z) := ⟨_, _, _, rfl⟩
  rw [hq3] at hm3
  dsimp only at hm3
  have HQ3 := Lib.hid hq3
  have hm4 := numR_leM 1099511627776 (by decide) l3 e3
  obtain ⟨n4, l4, e4, hq4⟩ : ∃ x y z, numR 1099511627776 l3 e3 = (x, y, z) := ⟨_, _, _, rfl⟩
  rw [hq4] at hm4
  dsimp only at hm4
  have HQ4 := Lib.hid hq4
  have hm5 := numR_leM 1099511627776 (by decide) l4 e4
  obtain ⟨n5, l5, e5, hq5⟩ : ∃ x y z, numR 1099511627776 l4 e4 = (x, y, z) := ⟨_, _, _, rfl⟩
  rw [hq5] at hm5
  dsimp only at hm5
  have HQ5 := Lib.hid hq5
  have hpf := rdPL_mem Pc.fit rdPc_fit l5 e5
  obtain ⟨PL, l6, e6, hq6⟩ : ∃ x y z, rdPL l5 e5 = (x, y, z) := ⟨_, _, _, rfl⟩
  rw [hq6] at hpf
  dsimp only at hpf
  have HQ6 := Lib.hid (fun w h => preadps p l5 e5 w h)
  rw [hq6] at HQ6
  dsimp only at HQ6
  have hrd : rdSn l e = (⟨str t1, str t2, (n3 : Int), (n4 : Int), (n5 : Int), PL⟩, l6, e6) := by unfold rdSn; simp only [hq1, hq2, hq3, hq4, hq5, hq6]
  rw [hrd]
  dsimp only
  have HOW := Lib.hid (fun w' b a m c (hl : PL.length = m) (ho : LsN pcE w' b (.slice a m c) PL) => (show OwnN w' b ⟨⟨str t1, str t2, (n3 : Int), (n4 : Int), (n5 : Int), PL⟩, a, m, c⟩ from ⟨by dsimp only; rw [str_sizeM]; unfold maxLen; omega, by dsimp only; rw [str_sizeM]; unfold maxLen; omega, ⟨by dsimp only; omega, by dsimp only; omega⟩, ⟨by dsimp only; omega, by dsimp only; omega⟩, ⟨by dsimp only; omega, by dsimp only; omega⟩, hl, hpf, ho⟩))
  clear h hrd hq1 hq2 hq3 hq4 hq5 hq6 hm1 hm2 hm3 hm4 hm5 hpf
  go_enter Tryz.func32, Tryz.ntmps32
  go_wp2_with (first
    | ((with_reducible refine alloc_row (o := ⟨some 2, _, _, _, _, _⟩) rfl _ rfl _ MZ.out ?_); intro w1 hr hb hz; have R1 := Lib.hid hr; have P1 := Lib.hid (H.out.mono hb); have G1 := Lib.hid (Gw.of_below (g := p) hb); have NP := Lib.hid (show p ≠ w.heap.size by omega); clear hr hb hz)
    | (go_at_call 62; (with_reducible refine (ptextR p 16 l e w1 P1.out).mono ?_); rw [HQ1.out]; rintro x w2 ⟨rfl, hP, hu⟩; have P2 := Lib.hid hP; have R2 := Lib.hid (R1.out.upd hu NP.out.symm); have G2 := Lib.hid (G1.out.trans (Gw.upd hu)); clear hP hu)
    | (go_at_call 62; (with_reducible refine (ptextR p 16 l1 e1 w2 P2.out).mono ?_); rw [HQ2.out]; rintro x w3 ⟨rfl, hP, hu⟩; have P3 := Lib.hid hP; have R3 := Lib.hid (R2.out.upd hu NP.out.symm); have G3 := Lib.hid (G2.out.trans (Gw.upd hu)); clear hP hu)
    | (go_at_call 61; (with_reducible refine (pnumR p 1099511627776 l2 e2 w3 P3.out).mono ?_); rw [HQ3.out]; rintro x w4 ⟨rfl, hP, hu⟩; have P4 := Lib.hid hP; have R4 := Lib.hid (R3.out.upd hu NP.out.symm); have G4 := Lib.hid (G3.out.trans (Gw.upd hu)); clear hP hu)
    | (go_at_call 61; (with_reducible refine (pnumR p 1099511627776 l3 e3 w4 P4.out).mono ?_); rw [HQ4.out]; rintro x w5 ⟨rfl, hP, hu⟩; have P5 := Lib.hid hP; have R5 := Lib.hid (R4.out.upd hu NP.out.symm); have G5 := Lib.hid (G4.out.trans (Gw.upd hu)); clear hP hu)
    | (go_at_call 61; (with_reducible refine (pnumR p 1099511627776 l4 e4 w5 P5.out).mono ?_); rw [HQ5.out]; rintro x w6 ⟨rfl, hP, hu⟩; have P6 := Lib.hid hP; have R6 := Lib.hid (R5.out.upd hu NP.out.symm); have G6 := Lib.hid (G5.out.trans (Gw.upd hu)); clear hP hu)
    | (go_at_call 10; (with_reducible refine (HQ6.out w6 P6.out).mono ?_); rintro x w7 ⟨ad, m, cc, rfl, hlm, hN, hP, hu⟩; have LM := Lib.hid hlm; have N7 := Lib.hid (hN.base G6.out.size); have P7 := Lib.hid hP; have R7 := Lib.hid (R6.out.gw hu NP.out.symm); have G7 := Lib.hid (G6.out.trans hu); clear hlm hN hP hu)
    | ((with_reducible refine build_row (o := ⟨some 15, _, _, _, _, _⟩) rfl _ _ rfl (snC (str t1) (str t2) (n3 : Int) (n4 : Int) (n5 : Int) ad m cc) ?_ ?_); (focus (go_simp; exact pbuiltSn _ _ _ _ _ _ _ _)))
    | ((with_reducible refine store_row (o := ⟨none, _, _, _, _, _⟩) rfl _ (.tmp 2) _ rfl w.heap.size (snC (str t1) (str t2) (n3 : Int) (n4 : Int) (n5 : Int) ad m cc) ?_ ?_ 45 _ R7.out ?_ ?_ ?_ ?_); (focus go_simp); (focus (first | (go_simp; done) | (go_simp; rfl))); (focus (exact HSZ.out)); (focus rfl); (focus (exact sn_one _ _ _ _ _ _ _ _)); intro w8 hr hu; have R8 := Lib.hid hr; have N8 := Lib.hid (N7.out.upd hu (N7.out.own_neM R7.out (by decide))); have P8 := Lib.hid (P7.out.putM' NP.out R7.out (nob_sn _ _ _ _ _ _ _ _) hu); have G8 := Lib.hid (G7.out.tail (Nat.le_refl _) hu); clear hr hu))
  exact bodyPost_ret (results_cell_row rfl _ _ w.heap.size 45 _ _ _ (by go_simp) R8.out Tryz.underlying45 rfl HSZ.out) rfl ⟨⟨⟨str t1, str t2, (n3 : Int), (n4 : Int), (n5 : Int), PL⟩, ad, m, cc⟩, rfl, rfl, HOW.out _ _ _ _ _ LM.out N8.out, P8.out, G8.out⟩
set_option maxRecDepth 100000 in
set_option maxHeartbeats 16000000 in
theorem plsreads (p : Nat) (l : List UInt8) (e : Int) (w : World) (h : RP w p l e) (n : Nat) (l1 : List UInt8) (e1 : Int) (hq : numR 12 l e = (n, l1, e1)) (hn : n ≤ 12) :
    Calls Tryz.prog 31 #[.pointer (some ⟨p, 0, none⟩), .int .i64 12, .func (.func 32) #[] #[]] w fun x w' => ∃ a m c, x = .returned (.slice a m c) ∧ (lsLm (rdSns n l1 e1)).length = m ∧ SnN w' w.heap.size (.slice a m c) (lsLm (rdSns n l1 e1)) ∧ RP w' p (rdSns n l1 e1).2.1 (rdSns n l1 e1).2.2 ∧ Gw p w w' := by
  have H := Lib.hid h
  have HQ := Lib.hid hq
  have HSZ := Lib.hid sn_size
  obtain ⟨Z, hZ⟩ : ∃ Z, rdSns n l1 e1 = Z := ⟨_, rfl⟩
  rw [hZ]
  have HZ := Lib.hid hZ
  clear h hq hZ
  go_enter Tryz.func31, Tryz.ntmps31
  go_wp2_with (first
    | (go_at_call 61; (with_reducible refine (pnumR p 12 l e w H.out).mono ?_); rw [HQ.out]; rintro x w1 ⟨rfl, hP, hu⟩; have P1 := Lib.hid hP; have G1 := Lib.hid (Gw.upd hu); clear hP hu))
  go_loopw [7, 11] (fun v i wr => ∃ (k : Nat) (Lk : List Sn) (lk : List UInt8) (ek : Int) (ad : Option Addr) (m cc : Nat), v = .slice ad m cc ∧ i = .int .i64 (k : Int) ∧ k ≤ n ∧ Lk.length = m ∧ Hid (rdSns k l1 e1 = (Lk, lk, ek)) ∧ Hid (SnN wr w.heap.size (.slice ad m cc) Lk) ∧ Hid (RP wr p lk ek) ∧ Hid (Gw p w wr)) (fun _ i _ => n - (intOf i).toNat)
  case atStart => exact ⟨0, [], l1, e1, none, 0, 0, rfl, rfl, Nat.zero_le _, rfl, Lib.hid rfl, Lib.hid (SnN.nil _ _), P1, G1⟩
  case round =>
    obtain ⟨k, Lk, lk, ek, ad, m, cc, rfl, rfl, hk, hlm, HK, N, P, G⟩ := hrel
    have HLM := Lib.hid hlm
    have hmk : m ≤ 12 := by have := rdSns_len l1 e1 k; rw [HK.out] at this; dsimp only at this; omega
    clear hlm
    by_cases hlt : k < n
    · obtain ⟨s, lx, ex, hrd⟩ : ∃ x y z, rdSn lk ek = (x, y, z) := ⟨_, _, _, rfl⟩
      have HRH := Lib.hid (preadsnap p lk ek wr P.out)
      rw [hrd] at HRH
      have HK2 := Lib.hid (show rdSns (k + 1) l1 e1 = (Lk ++ [s], lx, ex) by simp only [rdSns]; rw [HK.out]; dsimp only; rw [hrd])
      have g2 : (k : Int) < (n : Int) := by omega
      clear hrd
      go_wp2_with (first
        | (go_at_call 32; (with_reducible refine HRH.out.mono ?_); rintro x w3 ⟨y, rfl, hys, hO, hP, hu⟩; have YS := Lib.hid hys; have O3 := Lib.hid (hO.own' (hO.own.base G.out.size)); have P3 := Lib.hid hP; have N3 := Lib.hid (N.out.rp P.out hu); have G3 := Lib.hid (G.out.trans hu); clear hP hu hys hO)
        | ((with_reducible refine build_ls snOk sn_fill (o := ⟨some 17, _, _, _, _, _⟩) rfl _ rfl y ?_ ?_ (by decide) ?_); (focus (first | (go_simp; done) | (go_simp; rfl))); (focus (exact O3.out.x.fit)); intro w4 hl hb hz; have Q4 := Lib.hid hl; have P4 := Lib.hid (P3.out.mono hb); have O4 := Lib.hid (O3.out.own' (O3.out.own.kept hb)); have N4 := Lib.hid (N3.out.kept hb); have G4 := Lib.hid (G3.out.trans (Gw.of_below hb)); clear hl hb hz)
        | (at_builtin; (with_reducible refine append_snn rfl _ _ rfl w.heap.size (.slice ad m cc) Lk ?_ N4.out _ 0 1 1 y ?_ Q4.out O4.out (by decide) ?_ G4.out.size ?_); (focus (first | (go_simp; done) | (go_simp; rfl))); (focus (first | (go_simp; done) | (go_simp; rfl))); (focus (rw [HLM.out]; omega)); intro v5 w5 hN hb hg; have P5 := Lib.hid (RP.ownS P4.out N4.out hg); have G5 := Lib.hid (gw_belowM G4.out hb); rw [YS.out] at hN; obtain ⟨m5, hm5⟩ : ∃ q, (Lk ++ [s]).length = q := ⟨_, rfl⟩; obtain ⟨a5, c5, hv5, -⟩ := hN.o.snl; rw [hm5] at hv5; subst hv5; have N5 := Lib.hid hN; have M5 := Lib.hid hm5; clear hN hb hg hm5))
      go_roundw
      case rel => exact ⟨k + 1, _, lx, ex, a5, m5, c5, rfl, vint (by omega), by omega, M5.out, HK2, N5, P5, G5⟩
      case measure => simp [intOf]; omega
    · obtain rfl : n = k := by omega
      have hZ := HZ.out
      rw [HK.out] at hZ
      by_cases hek : ek = 0
      · subst hek
        have HLS := Lib.hid (show lsLm Z = Lk by rw [← hZ]; unfold lsLm; rw [if_pos rfl])
        have HZ2 := Lib.hid (show Z.2 = (lk, 0) by rw [← hZ])
        clear hZ
        go_wp2_with (first
          | (go_at_call 13; (with_reducible refine (perr p lk 0 wr P.out).mono ?_); rintro x w' ⟨rfl, rfl⟩))
        go_ret
        exact ⟨ad, m, cc, rfl, by rw [HLS.out]; exact HLM.out, by rw [HLS.out]; exact N.out, by rw [HZ2.out]; exact P.out, G.out⟩
      · have hq : (ek == 0) = false := by simpa using hek
        have hq2 : (ek != 0) = true := by simpa using hek
        have HLS := Lib.hid (show lsLm Z = [] by rw [← hZ]; unfold lsLm; dsimp only; rw [if_neg hek])
        have HZ2 := Lib.hid (show Z.2 = (lk, ek) by rw [← hZ])
        clear hZ
        go_wp2_with (first
          | (go_at_call 13; (with_reducible refine (perr p lk ek wr P.out).mono ?_); rintro x w' ⟨rfl, rfl⟩))
        go_ret
        exact ⟨none, 0, 0, rfl, by rw [HLS.out]; rfl, by rw [HLS.out]; exact SnN.nil _ _, by rw [HZ2.out]; exact P.out, G.out⟩
set_option maxRecDepth 100000 in
set_option maxHeartbeats 8000000 in
theorem pmread (p : Nat) (l : List UInt8) (e : Int) (w : World) (h : RP w p l e) :
    Calls Tryz.prog 8 #[.pointer (some ⟨p, 0, none⟩)] w fun x w' => ∃ a m c, x = .returned (.slice a m c) ∧ (readM l e).1.length = m ∧ SnN w' w.heap.size (.slice a m c) (readM l e).1 ∧ RP w' p (readM l e).2.1 (readM l e).2.2 ∧ Gw p w w' := by
  have hn := numR_leM 12 (by decide) l e
  obtain ⟨n, l1, e1, hq⟩ : ∃ x y z, numR 12 l e = (x, y, z) := ⟨_, _, _, rfl⟩
  have hsl : rdSL l e = (lsLm (rdSns n l1 e1), (rdSns n l1 e1).2) := by unfold rdSL; simp only [hq]
  rw [hq] at hn
  have HP := Lib.hid (plsreads p l e w h n l1 e1 hq (by dsimp only at hn; omega))
  unfold readM
  rw [hsl]
  obtain ⟨L0, lk, ek, hk⟩ : ∃ x y z, rdSns n l1 e1 = (x, y, z) := ⟨_, _, _, rfl⟩
  rw [hk] at HP ⊢
  dsimp only at HP ⊢
  obtain ⟨L, hL⟩ : ∃ x, lsLm (L0, lk, ek) = x := ⟨_, rfl⟩
  rw [hL] at HP ⊢
  have HCK := Lib.hid (fun a n c w h => mcheck a n c L w h)
  obtain ⟨ck, hck⟩ : ∃ x, checkM L = x := ⟨_, rfl⟩
  rw [hck] at HCK
  by_cases hek : ek = 0
  · subst hek
    unfold endM
    dsimp only
    rw [if_pos rfl, hck]
    clear h hsl hq hn hk hck hL
    cases ck
    · rw [if_neg (by decide)]
      dsimp only
      go_enter Tryz.func8, Tryz.ntmps8
      go_wp2_with (first
        | (go_at_call 31; (with_reducible refine HP.out.mono ?_); rintro x w1 ⟨ad, m, cc, rfl, hlm, hN, hP, hu⟩; have LM := Lib.hid hlm; have N1 := Lib.hid hN; have P1 := Lib.hid hP; have G1 := Lib.hid hu; have HSL := Lib.hid (hN.snl' hlm); clear hlm hN hP hu)
        | (go_at_call 33; (with_reducible refine (HCK.out _ _ _ w1 HSL.out).mono ?_); rintro x w2 ⟨rfl, hb⟩; have N2 := Lib.hid (N1.out.kept hb); have P2 := Lib.hid (P1.out.mono hb); have G2 := Lib.hid (G1.out.trans (Gw.of_below hb)); clear hb)
        | (go_at_call 34; (with_reducible refine (pfail p lk 0 3 w2 P2.out).mono ?_); rintro x w3 ⟨rfl, hP, hu⟩; have hP : RP w3 p [] 3 := hP; have P3 := Lib.hid hP; have G3 := Lib.hid (G2.out.trans (Gw.upd hu)); clear hP hu)
        | (go_at_call 13; (with_reducible refine (perr p [] 3 w3 P3.out).mono ?_); rintro x w' ⟨rfl, rfl⟩))
      go_ret
      exact ⟨none, 0, 0, rfl, rfl, SnN.nil _ _, P3.out, G3.out⟩
    · rw [if_pos rfl]
      dsimp only
      go_enter Tryz.func8, Tryz.ntmps8
      go_wp2_with (first
        | (go_at_call 31; (with_reducible refine HP.out.mono ?_); rintro x w1 ⟨ad, m, cc, rfl, hlm, hN, hP, hu⟩; have LM := Lib.hid hlm; have N1 := Lib.hid hN; have P1 := Lib.hid hP; have G1 := Lib.hid hu; have HSL := Lib.hid (hN.snl' hlm); clear hlm hN hP hu)
        | (go_at_call 33; (with_reducible refine (HCK.out _ _ _ w1 HSL.out).mono ?_); rintro x w2 ⟨rfl, hb⟩; have N2 := Lib.hid (N1.out.kept hb); have P2 := Lib.hid (P1.out.mono hb); have G2 := Lib.hid (G1.out.trans (Gw.of_below hb)); clear hb)
        | (go_at_call 13; (with_reducible refine (perr p lk 0 w2 P2.out).mono ?_); rintro x w' ⟨rfl, rfl⟩))
      go_ret
      exact ⟨_, _, _, rfl, LM.out, N2.out, P2.out, G2.out⟩
  · have hq1 : (ek == 0) = false := by simpa using hek
    have hq2 : (ek != 0) = true := by simpa using hek
    have hz : endM (L, lk, ek) = ([], lk, ek) := by unfold endM; dsimp only; rw [if_neg hek]
    rw [hz]
    dsimp only
    have FL := Lib.hid (show failL lk ek 3 = lk by unfold failL; rw [if_pos (Or.inl hek)])
    have FE := Lib.hid (show failE ek 3 = ek by unfold failE; rw [if_pos (Or.inl hek)])
    clear h hsl hq hn hk hck hL hz
    cases ck
    · go_enter Tryz.func8, Tryz.ntmps8
      go_wp2_with (first
        | (go_at_call 31; (with_reducible refine HP.out.mono ?_); rintro x w1 ⟨ad, m, cc, rfl, hlm, hN, hP, hu⟩; have LM := Lib.hid hlm; have N1 := Lib.hid hN; have P1 := Lib.hid hP; have G1 := Lib.hid hu; have HSL := Lib.hid (hN.snl' hlm); clear hlm hN hP hu)
        | (go_at_call 33; (with_reducible refine (HCK.out _ _ _ w1 HSL.out).mono ?_); rintro x w2 ⟨rfl, hb⟩; have N2 := Lib.hid (N1.out.kept hb); have P2 := Lib.hid (P1.out.mono hb); have G2 := Lib.hid (G1.out.trans (Gw.of_below hb)); clear hb)
        | (go_at_call 34; (with_reducible refine (pfail p lk ek 3 w2 P2.out).mono ?_); rintro x w3 ⟨rfl, hP, hu⟩; rw [FL.out, FE.out] at hP; have P3 := Lib.hid hP; have G3 := Lib.hid (G2.out.trans (Gw.upd hu)); clear hP hu)
        | (go_at_call 13; (with_reducible refine (perr p lk ek w3 P3.out).mono ?_); rintro x w' ⟨rfl, rfl⟩))
      go_ret
      exact ⟨none, 0, 0, rfl, rfl, SnN.nil _ _, P3.out, G3.out⟩
    · go_enter Tryz.func8, Tryz.ntmps8
      go_wp2_with (first
        | (go_at_call 31; (with_reducible refine HP.out.mono ?_); rintro x w1 ⟨ad, m, cc, rfl, hlm, hN, hP, hu⟩; have LM := Lib.hid hlm; have N1 := Lib.hid hN; have P1 := Lib.hid hP; have G1 := Lib.hid hu; have HSL := Lib.hid (hN.snl' hlm); clear hlm hN hP hu)
        | (go_at_call 33; (with_reducible refine (HCK.out _ _ _ w1 HSL.out).mono ?_); rintro x w2 ⟨rfl, hb⟩; have N2 := Lib.hid (N1.out.kept hb); have P2 := Lib.hid (P1.out.mono hb); have G2 := Lib.hid (G1.out.trans (Gw.of_below hb)); clear hb)
        | (go_at_call 13; (with_reducible refine (perr p lk ek w2 P2.out).mono ?_); rintro x w' ⟨rfl, rfl⟩))
      go_ret
      exact ⟨none, 0, 0, rfl, rfl, SnN.nil _ _, P2.out, G2.out⟩
end Go.Proofs.YtjolmjbhpokgmaaGreat.W

namespace Go.Proofs.YtjolmjbhpokgmaaGreat.W
open Go Go.ChangeShapes Go.WideShapes Go.ChangeAt Go.RowKit
open Go.Proofs.YtjolmjbhpokgmaaGreat.P (enc dec)
open Go.Proofs.YtjolmjbhpokgmaaGreat.S

-- ---- there and back
theorem nameV_16 {s : ByteArray} (h : nameV s = true) : s.size ≤ 16 := by
  unfold nameV nameL at h
  simp only [Bool.and_eq_true, decide_eq_true_eq] at h
  have h5 : s.data.toList.length = s.size := Array.length_toList
  omega
structure OkS (s : Sn) : Prop where
  len : s.P.length ≤ 8
  all : s.P.all pokM = true
  by' : 0 ≤ s.by' ∧ s.by' ≤ 2048
  sp : s.sp.size ≤ 16
  nm : s.nm.size ≤ 16
  ti : 0 ≤ s.ti ∧ s.ti ≤ 1099511627776
  ke : 0 ≤ s.ke ∧ s.ke ≤ 1099511627776
theorem okM_s {s : Sn} (h : okM s = true) : OkS s := by
  unfold okM at h
  simp only [Bool.and_eq_true, decide_eq_true_eq, in64_iff] at h
  obtain ⟨h1, h2, h3, h4, h5, h6⟩ := h
  unfold bytesM at h1 h2
  split at h1
  · rename_i hc
    rw [if_pos hc] at h2
    dsimp only at h2
    have := sumM_lim s.P hc.2
    exact ⟨hc.1, hc.2, by omega, nameV_16 h3, nameV_16 h4, h5, h6⟩
  · cases h1
theorem rdSn_put {s : Sn} (h : OkS s) (t : List UInt8) : rdSn (codeS s ++ t) 0 = (s, t, 0) := by
  obtain ⟨sp, nm, b, ti, ke, L⟩ := s
  obtain ⟨h1, h2, h3, h4, h5, h6, h7⟩ := h
  dsimp only at h1 h2 h3 h4 h5 h6 h7
  have e1 : codeS ⟨sp, nm, b, ti, ke, L⟩ ++ t = enc sp.size ++ (sp.data.toList ++ (enc nm.size ++ (nm.data.toList ++ (enc b.toNat ++ (enc ti.toNat ++ (enc ke.toNat ++ (enc L.length ++ (L.flatMap codeP ++ t)))))))) := by unfold codeS; simp
  have a1 := text_enc 16 sp (enc nm.size ++ (nm.data.toList ++ (enc b.toNat ++ (enc ti.toNat ++ (enc ke.toNat ++ (enc L.length ++ (L.flatMap codeP ++ t))))))) (by omega) (by omega)
  have a2 := text_enc 16 nm (enc b.toNat ++ (enc ti.toNat ++ (enc ke.toNat ++ (enc L.length ++ (L.flatMap codeP ++ t))))) (by omega) (by omega)
  have a3 := num_enc 1099511627776 b.toNat (enc ti.toNat ++ (enc ke.toNat ++ (enc L.length ++ (L.flatMap codeP ++ t)))) (by omega) (by omega)
  have a4 := num_enc 1099511627776 ti.toNat (enc ke.toNat ++ (enc L.length ++ (L.flatMap codeP ++ t))) (by omega) (by omega)
  have a5 := num_enc 1099511627776 ke.toNat (enc L.length ++ (L.flatMap codeP ++ t)) (by omega) (by omega)
  have a6 := rdPL_put L h2 h1 t
  unfold rdSn
  rw [e1]
  simp only [a1, a2, a3, a4, a5, a6]
  rw [str_dataM, str_dataM, show ((b.toNat : Nat) : Int) = b by omega, show ((ti.toNat : Nat) : Int) = ti by omega, show ((ke.toNat : Nat) : Int) = ke by omega]
theorem rdSns_put (L : List Sn) (hL : ∀ s ∈ L, OkS s) (t : List UInt8) : ∀ n, n ≤ L.length → rdSns n (L.flatMap codeS ++ t) 0 = (L.take n, (L.drop n).flatMap codeS ++ t, 0)
  | 0, _ => by simp [rdSns]
  | n + 1, hn => by
    have ih := rdSns_put L hL t n (by omega)
    have hlt : n < L.length := by omega
    have hd : L.drop n = L[n] :: L.drop (n + 1) := List.drop_eq_getElem_cons hlt
    simp only [rdSns]
    rw [ih]
    dsimp only
    rw [hd, List.flatMap_cons, List.append_assoc, rdSn_put (hL _ (List.getElem_mem hlt))]
    rw [List.take_succ_eq_append_getElem hlt]
theorem checkM_ok {L : List Sn} (h : checkM L = true) : L.length ≤ 12 ∧ ∀ s ∈ L, OkS s := by
  unfold checkM at h
  rw [chkM_split] at h
  simp only [Bool.and_eq_true, decide_eq_true_eq] at h
  exact ⟨h.1, fun s hs => okM_s (List.all_eq_true.1 h.2.2 s hs)⟩
theorem readM_put (L : List Sn) (h : checkM L = true) (t : List UInt8) : readM (enc L.length ++ (L.flatMap codeS ++ t)) 0 = (L, t, 0) := by
  obtain ⟨h1, h2⟩ := checkM_ok h
  have a1 := num_enc 12 L.length (L.flatMap codeS ++ t) (by omega) (by omega)
  have a2 := rdSns_put L h2 t L.length (Nat.le_refl _)
  rw [List.take_of_length_le (Nat.le_refl _), List.drop_of_length_le (Nat.le_refl _)] at a2
  simp only [List.flatMap_nil, List.nil_append] at a2
  unfold readM rdSL
  simp only [a1, a2]
  unfold lsLm endM
  rw [if_pos rfl]
  dsimp only
  rw [if_pos rfl, if_pos h]
-- ---- added, and removed again
theorem callM_self (s : Sn) : callM s.sp s.nm s = true := by
  unfold callM
  rw [(eqM_iff s.sp s.sp).2 rfl, (eqM_iff s.nm s.nm).2 rfl]; rfl
theorem below_tot {s x : Sn} (h : belowM s x = false) (hc : callM s.sp s.nm x = false) : belowM x s = true := by
  unfold belowM at h ⊢
  unfold callM at hc
  rw [Bool.or_eq_false_iff] at h
  rw [Bool.or_eq_true, Bool.and_eq_true]
  obtain ⟨h1, h2⟩ := h
  by_cases he : x.sp = s.sp
  · right
    have e1 : eqM x.sp s.sp = true := (eqM_iff _ _).2 he
    have e2 : eqM s.sp x.sp = true := (eqM_iff _ _).2 he.symm
    rw [e1, Bool.true_and] at hc
    rw [e2, Bool.true_and] at h2
    exact ⟨e1, ltM_total h2 (fun e => eqM_ne.1 hc e.symm)⟩
  · exact .inl (ltM_total h1 (fun e => he e.symm))
theorem hasM_cons {sp nm : ByteArray} {x : Sn} {L : List Sn} (h : hasM sp nm (x :: L) = false) : callM sp nm x = false ∧ hasM sp nm L = false := by
  unfold hasM at h ⊢
  rw [List.any_cons, Bool.or_eq_false_iff] at h
  exact h
theorem chk_ins (s : Sn) (hs : okM s = true) : ∀ (L : List Sn) (p : Option Sn), chkM p L = true → behM p s = true → hasM s.sp s.nm L = false → chkM p (L.take (aheadM s L) ++ [s] ++ L.drop (aheadM s L)) = true
  | [], p, _, hb, _ => by simp [aheadM, chkM, hs, hb]
  | x :: L, p, h, hb, hh => by
    obtain ⟨hx, hL⟩ := hasM_cons hh
    simp only [chkM, Bool.and_eq_true] at h
    obtain ⟨h1, h2, h3⟩ := h
    cases hbx : belowM s x with
    | true =>
      have e : aheadM s (x :: L) = 0 := by simp [aheadM, hbx]
      rw [e]
      simp only [List.take_zero, List.nil_append, List.drop_zero, List.cons_append, chkM, Bool.and_eq_true]
      exact ⟨hs, hb, h1, hbx, h3⟩
    | false =>
      have e : aheadM s (x :: L) = aheadM s L + 1 := by simp [aheadM, hbx]
      have ih := chk_ins s hs L (some x) h3 (show belowM x s = true from below_tot hbx hx) hL
      rw [e]
      simp only [List.take_succ_cons, List.drop_succ_cons, List.cons_append, chkM, Bool.and_eq_true]
      exact ⟨h1, h2, ih⟩
theorem addM_check {L : List Sn} (s : Sn) (h : checkM L = true) : checkM (addM L s).1 = true := by
  unfold addM
  split
  · exact h
  · rename_i h1
    split
    · exact h
    · rename_i h2
      split
      · exact h
      · rename_i h3
        dsimp only
        unfold checkM at h ⊢
        simp only [Bool.and_eq_true, decide_eq_true_eq] at h ⊢
        have hle := ahead_le s L
        refine ⟨?_, chk_ins s (by simpa using h1) L none h.2 rfl (by simpa using h2)⟩
        simp only [List.length_append, List.length_take, List.length_drop, List.length_cons, List.length_nil]
        omega
theorem addM_err {L : List Sn} {s : Sn} (h : (addM L s).2 ≠ 0) : (addM L s).1 = L := by
  unfold addM at h ⊢
  split
  · rfl
  · rename_i h1
    rw [if_neg h1] at h
    split
    · rfl
    · rename_i h2
      rw [if_neg h2] at h
      split
      · rfl
      · rename_i h3
        rw [if_neg h3] at h
        exact absurd rfl h
theorem at_app (sp nm : ByteArray) (s : Sn) (B : List Sn) (hs : callM sp nm s = true) : ∀ A : List Sn, hasM sp nm A = false → atM sp nm (A ++ s :: B) = A.length
  | [], _ => by simp [atM, hs]
  | x :: A, h => by
    obtain ⟨hx, hA⟩ := hasM_cons h
    have ih := at_app sp nm s B hs A hA
    simp [atM, hx, ih]
theorem addM_back {L : List Sn} {s : Sn} (h : (addM L s).2 = 0) (now : Int) : removeM (addM L s).1 s.sp s.nm now = if now < s.ke then ((addM L s).1, 0, 22) else (L, s.by', 0) := by
  have h2 : hasM s.sp s.nm L = false ∧ (addM L s).1 = L.take (aheadM s L) ++ s :: L.drop (aheadM s L) := by
    unfold addM at h ⊢
    split
    · rename_i h1; rw [if_pos h1] at h; cases h
    · rename_i h1
      rw [if_neg h1] at h
      split
      · rename_i h2; rw [if_pos h2] at h; cases h
      · rename_i h2
        rw [if_neg h2] at h
        split
        · rename_i h3; rw [if_pos h3] at h; cases h
        · exact ⟨by simpa using h2, by simp⟩
  obtain ⟨hh, he⟩ := h2
  rw [he]
  have hle := ahead_le s L
  obtain ⟨A, hA⟩ : ∃ A, L.take (aheadM s L) = A := ⟨_, rfl⟩
  obtain ⟨B, hB⟩ : ∃ B, L.drop (aheadM s L) = B := ⟨_, rfl⟩
  have hAB : A ++ B = L := by rw [← hA, ← hB]; exact List.take_append_drop _ _
  have hhA : hasM s.sp s.nm A = false := by
    rw [← hAB] at hh
    unfold hasM at hh ⊢
    rw [List.any_append, Bool.or_eq_false_iff] at hh
    exact hh.1
  rw [hA, hB]
  have h1 : hasM s.sp s.nm (A ++ s :: B) = true := by
    unfold hasM
    rw [List.any_append, List.any_cons, callM_self s]; simp
  have h3 : atM s.sp s.nm (A ++ s :: B) = A.length := at_app _ _ s B (callM_self s) A hhA
  unfold removeM keepM bytM
  rw [h1, h3]
  have h4 : (A ++ s :: B).getD A.length snZ = s := by simp [List.getD]
  rw [h4, if_neg (by simp)]
  split
  · rfl
  · rw [List.take_left' rfl]
    have h5 : (A ++ s :: B).drop (A.length + 1) = B := by simp
    rw [h5, hAB]
theorem addM_few {L : List Sn} {s : Sn} (h : FewP L) (hs : s.P.length ≤ 1000) : FewP (addM L s).1 := by
  unfold addM
  split
  · exact h
  · split
    · exact h
    · split
      · exact h
      · intro x hx
        dsimp only at hx
        rcases List.mem_append.1 hx with hx | hx
        · rcases List.mem_append.1 hx with hx | hx
          · exact h x (List.mem_of_mem_take hx)
          · rw [List.mem_singleton.1 hx]; exact hs
        · exact h x (List.mem_of_mem_drop hx)
set_option maxRecDepth 100000 in
/-- Put of snapshots that may be -/
theorem pputM (a : Option Addr) (n c : Nat) (L : List Sn) (w : World) (h : SnL w a n c L) (hL : checkM L = true) :
    Calls Tryz.prog 19 #[.slice none 0 0, .slice a n c] w fun x w' => ∃ y m d, x = .returned (.slice y m d) ∧ Rd w' y m d (enc n ++ L.flatMap codeS) ∧ m ≤ 30000000000 ∧ Below w.heap.size w w' := by
  obtain ⟨h1, h2⟩ := checkM_ok hL
  obtain ⟨X, hX, hXL⟩ := h
  have hln : L.length = n := by rw [← hXL, List.length_map, hX.hlen]
  have hsh : ∀ x ∈ X, x.short := fun x hx => by
    have hm : x.s ∈ L := by rw [← hXL]; exact List.mem_map_of_mem hx
    have ok := h2 _ hm
    exact ⟨by have := ok.sp; omega, by have := ok.nm; omega, by have := ok.len; omega, fun p hp => by have := (pokM_iff.1 (List.all_eq_true.1 ok.all p hp)).1; omega⟩
  have he : X.flatMap codeX = L.flatMap codeS := by rw [← hXL, List.flatMap_map]; rfl
  have hp := pputsn none 0 0 [] a n c X w rd_nil_mf (by omega) hX (by omega) hsh
  rw [he, List.nil_append] at hp
  exact hp
section
variable {H : Type} {enc : TypeId × Value → H} {w : World} {base : Nat} {held : Bool}
set_option maxRecDepth 100000 in
theorem sn_open {base' : Nat} {v : Value} {d : DataW H} {pl : List MemPlace} (hv : Value.okWide Tryz.prog w .any base' 45 v) (h : DataW.Trod enc Tryz.prog w base (fun _ => true) held 45 v d pl) : ∃ y : SnX, v = .agg y.cells.toArray ∧ y.fit w := by
  obtain ⟨fuel, hf⟩ := h
  obtain ⟨cs, rfl, -⟩ := okWide_struct Tryz.underlying45 hv
  obtain ⟨y, e, hy⟩ := sn_cells hf
  simp only [Value.cells] at e
  exact ⟨y, by congr 1; apply Array.ext'; rw [e], hy⟩
end
end Go.Proofs.YtjolmjbhpokgmaaGreat.W
