/- LAYER 20 (manifest): slices.Insert at a list of snapshots of one's own. LAYER 20 (manifest): Find and Add of the program. -/
import Derived.Test.YtpcpgodnhamdiaaMfC
import Derived.Test.YtpcpgodnhamdiaaIns
import Derived.Laws.Externs
import Derived.Shelf.Spec.SlicesInsert
set_option linter.unusedSimpArgs false
set_option linter.unusedVariables false
namespace Go.Proofs.Ytpcpgodnhamdiaa.W
open Go Go.ChangeShapes Go.WideShapes Go.ChangeAt Go.RowKit
open Go.Proofs (step_copy_runI)

/-- all blocks but that of v are as they were -/
def Kp (v : Value) (w w' : World) : Prop := ∀ k, k < w.heap.size → v.ownBlock ≠ some k → w'.heap[k]? = w.heap[k]?
theorem Kp.of_grown {v : Value} {w w' : World} (h : w.grownBy w' v.ownBlock) : Kp v w w' := fun k hk hn => h.block k hk (fun e => hn e.symm)
theorem LsO.keep {α : Type} {E : El α} {w w' : World} {base : Nat} {v : Value} {L : List α} (h : LsO E w base v L) (hk : ∀ g, v.ownBlock = some g → w'.heap[g]? = w.heap[g]?) : LsO E w' base v L := by
  obtain ⟨h1, h2⟩ := h
  refine ⟨h1, ?_⟩
  rcases h2 with h2 | ⟨g, cap, cur, rfl, hg, hh, r⟩
  · exact .inl h2
  · exact .inr ⟨g, cap, cur, rfl, hg, (hk g rfl).trans hh, r⟩
theorem Ls.of_rowM {w : World} {g n c : Nat} {L : List SnX} {R : List Value} (hr : Row w g 25 R) (hn : L.length = n) (hc : n ≤ c) (hm : c ≤ maxLen) (ht : R.take (n * 6) = flatE snE L) (hf : ∀ x ∈ L, x.fit w) : Ls snE w (some ⟨g, 0, none⟩) n c L := by
  refine ⟨hn, hc, by unfold maxLen at hm; omega, hf, (fun h => by cases h), .inr ⟨g, 0, rfl, hr.lt, fun i x hi j v hj => ?_⟩⟩
  have hj3 : j < 6 := (List.getElem?_eq_some_iff.1 hj).1
  have hil : i < L.length := (List.getElem?_eq_some_iff.1 hi).1
  have e := flatE_at snOk L i j x hi hj3
  rw [Nat.zero_add, hr.cellV]
  rw [hj, ← ht, List.getElem?_take, if_pos (show i * snE.k + j < n * 6 by show i * 6 + j < n * 6; omega)] at e
  exact e
theorem LsO.of_rowM {w : World} {base g n c : Nat} {L : List SnX} {R : List Value} (hr : Row w g 25 R) (hg : base ≤ g) (hn : L.length = n) (hc : n ≤ c) (hm : c ≤ maxLen) (hl : R.length = c * 6) (ht : R.take (n * 6) = flatE snE L) : LsO snE w base (.slice (some ⟨g, 0, none⟩) n c) L := by
  subst hn
  exact ⟨by rw [flatE_len snOk], .inr ⟨g, c, R.toArray, rfl, hg, hr, hc, hm, by simpa using hl, by simpa using ht⟩⟩
end Go.Proofs.Ytpcpgodnhamdiaa.W

namespace Go.Proofs.Ytpcpgodnhamdiaa.W
open Go Go.ChangeShapes Go.WideShapes Go.ChangeAt Go.RowKit
open Go.Proofs.Ytpcpgodnhamdiaa.P (enc dec)
open Go.Proofs.Ytpcpgodnhamdiaa.S

theorem FewP.at {L : List Sn} (hf : FewP L) {k : Nat} {s : Sn} (h : L[k]? = some s) : s.P.length ≤ 1000 := hf s (List.mem_of_getElem? h)
def snXZ : SnX := ⟨snZ, none, 0, 0⟩
theorem snXZ_own (w : World) (base : Nat) : OwnX w base snXZ := ⟨by decide, by decide, by unfold SI64; decide, by unfold SI64; decide, by unfold SI64; decide, rfl, (fun p hp => by cases hp), LsO.nil _ _⟩
set_option maxRecDepth 100000 in
set_option maxHeartbeats 16000000 in
theorem pmfind (sp nm : ByteArray) (a : Option Addr) (n c : Nat) (L : List Sn) (w : World) (h : SnL w a n c L) (hf : FewP L) :
    Calls Try.prog 19 #[.slice a n c, .string sp, .string nm] w fun x w' => ∃ y : SnX, x = .returned (.tuple #[.agg y.cells.toArray, .bool (hasM sp nm L)]) ∧ y.s = (findM L sp nm).1 ∧ OwnX w' w.heap.size y ∧ Below w.heap.size w w' := by
  have SZ := Lib.hid sn_size
  have MZ := Lib.hid sn_zero
  have HI := Lib.hid (fun g1 g2 (w' : World) (hb : Below w.heap.size w w') (h1 : Row w' g1 9 [.string sp]) (h2 : Row w' g2 9 [.string nm]) => idxcall sp nm g1 g2 a n c L w' (h.mono hb) h1 h2)
  rcases at_has sp nm L with ⟨h1, -, -⟩ | ⟨y, h1, h2, h3, h4⟩
  · have HF := Lib.hid (show snXZ.s = (findM L sp nm).1 by unfold findM; rw [h1]; rfl)
    rw [show ixM sp nm L = -1 by unfold ixM; rw [h1]; rfl] at HI
    rw [h1]
    clear h hf h1
    go_enter Try.func19, Try.ntmps19
    go_wp2_with (first
      | ((with_reducible refine alloc_row (o := ⟨some 6, _, _, _, _, _⟩) rfl _ rfl _ MZ.out ?_); intro w1 hr hb hz; have R1 := Lib.hid hr; have B1 := Lib.hid hb; clear hr hb hz)
      | (go_at_call 40; (with_reducible refine (pcalled sp nm w1).mono ?_); rintro x w2 ⟨g1, g2, rfl, hr1, hr2, hb⟩; have G1 := Lib.hid hr1; have G2 := Lib.hid hr2; have R2 := Lib.hid (R1.out.below hb R1.out.lt); have B2 := Lib.hid (B1.out.trans (hb.mono B1.out.size)); clear hr1 hr2 hb)
      | (go_at_call 49; (with_reducible refine (HI.out g1 g2 w2 B2.out G1.out G2.out).mono ?_); rintro x w3 ⟨rfl, hb⟩; have R3 := Lib.hid (R2.out.below hb R2.out.lt); have B3 := Lib.hid (B2.out.trans (hb.mono B2.out.size)); clear hb)
      | ((with_reducible refine build_row (o := ⟨some 16, _, _, _, _, _⟩) rfl _ _ rfl (snXZ.cells) ?_ ?_); (focus (go_simp; kernel_rfl)))
      | ((with_reducible refine store_row (o := ⟨none, _, _, _, _, _⟩) rfl _ (.tmp 6) _ rfl w.heap.size (snXZ.cells) ?_ ?_ 25 _ R3.out ?_ ?_ ?_ ?_); (focus go_simp); (focus (first | (go_simp; done) | (go_simp; rfl))); (focus (exact SZ.out)); (focus rfl); (focus (exact snOk.one snXZ)); intro w4 hr hu; have R4 := Lib.hid hr; have B4 := Lib.hid (B3.out.trans (hu.below (Nat.le_refl _))); clear hr hu))
    exact bodyPost_ret (results_row_tmp rfl _ _ w.heap.size 25 _ _ _ (by go_simp) R4.out Try.underlying25 rfl SZ.out) rfl ⟨snXZ, rfl, HF.out, snXZ_own _ _, B4.out⟩
  · have HF := Lib.hid (show y = (findM L sp nm).1 by unfold findM; rw [if_pos h1]; dsimp only; rw [List.getD_eq_getElem?_getD, h2]; rfl)
    obtain ⟨k, hk⟩ : ∃ k, atM sp nm L = k := ⟨_, rfl⟩
    rw [show ixM sp nm L = (k : Int) by unfold ixM; rw [h1, hk]; rfl] at HI
    rw [hk] at h2
    rw [h1]
    have hm := hf.at h2
    obtain ⟨X, hX, e⟩ := h
    obtain ⟨x, hx, rfl⟩ := map_atr e h2
    have hkn : k < n := by rw [← hX.hlen]; exact (List.getElem?_eq_some_iff.1 hx).1
    have HX := Lib.hid hX
    have HXK := Lib.hid hx
    have HM := Lib.hid hm
    have g1' : (0 : Int) ≤ (k : Int) := by omega
    have g2' : (k : Int) < (n : Int) := by omega
    have g3' : ¬ ((k : Int) < 0) := by omega
    clear hf h1 h2 h3 h4 hk e hX hx hm
    go_enter Try.func19, Try.ntmps19
    go_wp2_with (first
      | ((with_reducible refine alloc_row (o := ⟨some 6, _, _, _, _, _⟩) rfl _ rfl _ MZ.out ?_); intro w1 hr hb hz; have R1 := Lib.hid hr; have B1 := Lib.hid hb; clear hr hb hz)
      | (go_at_call 40; (with_reducible refine (pcalled sp nm w1).mono ?_); rintro x1 w2 ⟨g1, g2, rfl, hr1, hr2, hb⟩; have G1 := Lib.hid hr1; have G2 := Lib.hid hr2; have R2 := Lib.hid (R1.out.below hb R1.out.lt); have B2 := Lib.hid (B1.out.trans (hb.mono B1.out.size)); clear hr1 hr2 hb)
      | (go_at_call 49; (with_reducible refine (HI.out g1 g2 w2 B2.out G1.out G2.out).mono ?_); rintro x1 w3 ⟨rfl, hb⟩; have R3 := Lib.hid (R2.out.below hb R2.out.lt); have B3 := Lib.hid (B2.out.trans (hb.mono B2.out.size)); clear hb))
    obtain ⟨b, off, x', rfl, hx', hcell, hfx⟩ := HX.out.at snOk B3.out k hkn
    obtain rfl : x = x' := by rw [HXK.out] at hx'; exact Option.some.inj hx'
    obtain ⟨⟨xs, xn, xb, xt, xk, P⟩, xa, xm, xc⟩ := x
    have XC := Lib.hid hcell
    have FX := Lib.hid hfx
    have hxm : xm ≤ 1000 := by have e1 : P.length = xm := hfx.P.hlen; have e2 : P.length ≤ 1000 := HM.out; omega
    have HOW := Lib.hid (mown xs xn xb xt xk xa xm xc P w3 hfx.P hxm)
    clear hcell hfx hx'
    go_wp2_with (first
      | ((with_reducible refine load_cells (o := ⟨some 20, _, _, _, _, _⟩) rfl _ _ rfl b (off + k * 6) ?_ (snC xs xn xb xt xk xa xm xc) _ XC.out Try.underlying25 rfl ?_ ?_); (focus go_simp); (focus (exact SZ.out)))
      | (go_at_call 37; (with_reducible refine HOW.out.mono ?_); rintro x1 w4 ⟨a7, c7, rfl, hown, hb⟩; have O4 := Lib.hid (hown.base B3.out.size); have R4 := Lib.hid (R3.out.below hb R3.out.lt); have B4 := Lib.hid (B3.out.trans (hb.mono B3.out.size)); clear hown hb)
      | ((with_reducible refine store_row (o := ⟨none, _, _, _, _, _⟩) rfl _ (.tmp 6) _ rfl w.heap.size (snC xs xn xb xt xk a7 xm c7) ?_ ?_ 25 _ R4.out ?_ ?_ ?_ ?_); (focus go_simp); (focus (first | (go_simp; done) | (go_simp; rfl))); (focus (exact SZ.out)); (focus rfl); (focus (exact sn_one _ _ _ _ _ _ _ _)); intro w5 hr hu; have R5 := Lib.hid hr; have O5 := Lib.hid (O4.out.upd hu (lso_ne O4.out R4.out (by decide))); have B5 := Lib.hid (B4.out.trans (hu.below (Nat.le_refl _))); clear hr hu))
    exact bodyPost_ret (results_row_tmp rfl _ _ w.heap.size 25 _ _ _ (by go_simp) R5.out Try.underlying25 rfl SZ.out) rfl ⟨⟨⟨xs, xn, xb, xt, xk, P⟩, a7, xm, c7⟩, rfl, HF.out, ⟨FX.out.sp, FX.out.nm, FX.out.by', FX.out.ti, FX.out.ke, FX.out.P.hlen, fun p hp => FX.out.P.hfit p hp, O5.out⟩, B5.out⟩
end Go.Proofs.Ytpcpgodnhamdiaa.W
