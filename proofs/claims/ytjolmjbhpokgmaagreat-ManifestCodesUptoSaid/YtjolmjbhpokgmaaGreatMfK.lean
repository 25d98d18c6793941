/- LAYER 20 (manifest): slices.Equal of strings. LAYER 20 (manifest): awake and few of the law. -/
import Derived.Test.YtjolmjbhpokgmaaGreatMfJ
import Derived.Test.YtjolmjbhpokgmaaGreatMfPk
import Derived.Test.YtjolmjbhpokgmaaGreatMem
set_option linter.unusedSimpArgs false
set_option linter.unusedVariables false
namespace Go.Proofs.YtjolmjbhpokgmaaGreat.W
open Go Go.ChangeShapes Go.WideShapes Go.ChangeAt Go.RowKit
open Go.Proofs.YtjolmjbhpokgmaaGreat.P (enc dec)
open Go.Proofs.YtjolmjbhpokgmaaGreat.S

theorem str_next (L M : List ByteArray) (k : Nat) (x : ByteArray) (h1 : L[k]? = some x) (h2 : M[k]? = some x) (e : L.take k = M.take k) : L.take (k + 1) = M.take (k + 1) := by
  obtain ⟨a1, a2⟩ := List.getElem?_eq_some_iff.1 h1
  obtain ⟨b1, b2⟩ := List.getElem?_eq_some_iff.1 h2
  rw [List.take_succ_eq_append_getElem a1, List.take_succ_eq_append_getElem b1, a2, b2, e]
set_option maxRecDepth 100000 in
set_option maxHeartbeats 16000000 in
theorem strequal (a a' : Option Addr) (n c n' c' : Nat) (L M : List ByteArray) (w : World) (V : Bool) (h1 : Ls strE w a n c L) (h2 : Ls strE w a' n' c' M) (hV : V = true ↔ L = M) :
    Calls Tryz.prog 27 #[.slice a n c, .slice a' n' c'] w fun x w' => x = .returned (.bool V) ∧ Below w.heap.size w w' := by
  have H1 := Lib.hid h1
  have H2 := Lib.hid h2
  have L1 := Lib.hid h1.hlen
  have L2 := Lib.hid h2.hlen
  have HV := Lib.hid hV
  have hm := h1.hmax
  have hle := h1.hle
  clear h1 h2 hV
  by_cases hn : n = n'
  case neg =>
    have HF := Lib.hid (show V = false by
      cases hh : V with
      | false => rfl
      | true => exact absurd (by rw [← L1.out, ← L2.out, HV.out.1 hh]) hn)
    have gn : ((n : Int) == (n' : Int)) = false := beq_eq_false_iff_ne.2 (by omega)
    have gm : ¬ ((n : Int) = (n' : Int)) := by omega
    clear HV
    go_enter Tryz.func27, Tryz.ntmps27
    go_wp2_with fail
    go_ret
    exact ⟨one (vbool (by rw [HF.out])), Below.refl _ _⟩
  subst hn
  go_enter Tryz.func27, Tryz.ntmps27
  go_wp2_with fail
  go_loopw [13] (fun i wr => ∃ k : Nat, i = .int .i64 (k : Int) ∧ k ≤ n ∧ Hid (L.take k = M.take k) ∧ Hid (Below w.heap.size w wr)) (fun i _ => n - (intOf i).toNat)
  case atStart => exact ⟨0, rfl, Nat.zero_le _, Lib.hid rfl, Lib.hid (Below.refl _ _)⟩
  case round =>
    obtain ⟨k, rfl, hk, P, B⟩ := hrel
    by_cases hlt : k < n
    · obtain ⟨b, o, x, rfl, hx1, hc1, -⟩ := H1.out.at strOk B.out k hlt
      obtain ⟨b', o', y, rfl, hx2, hc2, -⟩ := H2.out.at strOk B.out k hlt
      have g1 : (0 : Int) ≤ (k : Int) := by omega
      have g2 : (k : Int) < (n : Int) := by omega
      have d1 : wr.cell? ⟨b, o + k, none⟩ = some (.string x) := by have := hc1 0 (.string x) rfl; rw [show o + k * strE.k + 0 = o + k by show o + k * 1 + 0 = o + k; omega] at this; exact this
      have d2 : wr.cell? ⟨b', o' + k, none⟩ = some (.string y) := by have := hc2 0 (.string y) rfl; rw [show o' + k * strE.k + 0 = o' + k by show o' + k * 1 + 0 = o' + k; omega] at this; exact this
      clear hc1 hc2
      by_cases hxy : x = y
      · subst hxy
        have HN := Lib.hid (str_next L M k x hx1 hx2 P.out)
        clear hx1 hx2
        go_wp2_with fail
        go_quiet (fail)
        go_wp2_with fail
        go_roundw
        case rel => exact ⟨k + 1, vint (by omega), by omega, HN, Lib.hid (below_drewN B.out _)⟩
        case measure => simp [intOf]; omega
      · have HF := Lib.hid (show V = false by
          cases hh : V with
          | false => rfl
          | true =>
            have := HV.out.1 hh
            rw [this, hx2] at hx1
            exact absurd (Option.some.inj hx1).symm hxy)
        have ne1 : (x.toList == y.toList) = false := eqM_ne.2 hxy
        have ne3 : ¬ x.toList = y.toList := fun e => by rw [e] at ne1; simp at ne1
        have ne2 : (x.toList != y.toList) = true := by rw [bne, ne1]; rfl
        clear hx1 hx2 hxy
        go_wp2_with fail
        go_quiet (fail)
        go_wp2_with fail
        go_ret
        exact ⟨one (vbool (by rw [HF.out])), below_drewN B.out _⟩
    · obtain rfl : n = k := by omega
      have HT := Lib.hid (show V = true from HV.out.2 (by
        have := P.out
        rwa [List.take_of_length_le (by rw [L1.out]; exact Nat.le_refl _), List.take_of_length_le (by rw [L2.out]; exact Nat.le_refl _)] at this))
      go_wp2_with fail
      go_ret
      exact ⟨one (vbool (by rw [HT.out])), B.out⟩
end Go.Proofs.YtjolmjbhpokgmaaGreat.W

namespace Go.Proofs.YtjolmjbhpokgmaaGreat.W
open Go Go.ChangeShapes Go.WideShapes Go.ChangeAt Go.RowKit
open Go.Proofs.YtjolmjbhpokgmaaGreat.P (enc dec)
open Go.Proofs.YtjolmjbhpokgmaaGreat.S

theorem Ls.of_rowG {α : Type} {E : El α} {P : Program} (hE : E.Ok P) {w : World} {g n c : Nat} {L : List α} {R : List Value} (hr : Row w g E.eT R) (hn : L.length = n) (hc : n ≤ c) (hm : c ≤ maxLen) (ht : R.take (n * E.k) = flatE E L) (hf : ∀ x ∈ L, E.fit w x) : Ls E w (some ⟨g, 0, none⟩) n c L := by
  refine ⟨hn, hc, by unfold maxLen at hm; omega, hf, (fun h => by cases h), .inr ⟨g, 0, rfl, hr.lt, fun i x hi j v hj => ?_⟩⟩
  have hj3 : j < E.k := by rw [← hE.len x]; exact (List.getElem?_eq_some_iff.1 hj).1
  have hil : i < L.length := (List.getElem?_eq_some_iff.1 hi).1
  have e := flatE_at hE L i j x hi hj3
  have hlt : i * E.k + j < n * E.k := by
    have h1 : (i + 1) * E.k ≤ n * E.k := Nat.mul_le_mul_right _ (by omega)
    rw [Nat.add_mul] at h1; omega
  rw [Nat.zero_add, hr.cellV]
  rw [hj, ← ht, List.getElem?_take, if_pos hlt] at e
  exact e
def zs20 : ByteArray := str (List.replicate 32 0)
def pcA20 : Pc := ⟨zs20, 5⟩
@[reducible] def snA20 : Sn := ⟨⟨#[97]⟩, ⟨#[120]⟩, 5, 0, 0, [pcA20]⟩
@[reducible] def snB20 : Sn := ⟨⟨#[97]⟩, ⟨#[98]⟩, 10, 0, 0, [pcA20, pcA20]⟩
theorem pcA20_fit : pcA20.fit := ⟨by decide, ⟨by decide, by decide⟩⟩
theorem pc_built20 : Tryz.prog.built 47 [(0, .string zs20), (1, .int .i64 5)] = some pcA20.cells.toArray := by kernel_rfl
theorem snA_built20 (g : Nat) : Tryz.prog.built 45 [(0, .string ⟨#[97]⟩), (1, .string ⟨#[120]⟩), (2, .int .i64 5), (5, .slice (some ⟨g, 0, none⟩) 1 1)] = some (snC ⟨#[97]⟩ ⟨#[120]⟩ 5 0 0 (some ⟨g, 0, none⟩) 1 1).toArray := by kernel_rfl
theorem snB_built20 (g : Nat) : Tryz.prog.built 45 [(0, .string ⟨#[97]⟩), (1, .string ⟨#[98]⟩), (2, .int .i64 10), (5, .slice (some ⟨g, 0, none⟩) 2 2)] = some (snC ⟨#[97]⟩ ⟨#[98]⟩ 10 0 0 (some ⟨g, 0, none⟩) 2 2).toArray := by kernel_rfl
theorem pc_fill1 : Instr.fill (fun i => some (i * pcE.k, pcE.k)) ((Array.range (1 * pcE.k)).map (pcE.z.cells[· % pcE.z.cells.size]!)) [(0, .agg (pcE.cells pcA20).toArray)] = some (pcE.cells pcA20).toArray := by kernel_rfl
theorem pc_fill2 : Instr.fill (fun i => some (i * pcE.k, pcE.k)) ((Array.range (2 * pcE.k)).map (pcE.z.cells[· % pcE.z.cells.size]!)) [(0, .agg (pcE.cells pcA20).toArray), (1, .agg (pcE.cells pcA20).toArray)] = some (pcE.cells pcA20 ++ pcE.cells pcA20).toArray := by kernel_rfl
theorem str_fill2 (s t : ByteArray) : Instr.fill (fun i => some (i * strE.k, strE.k)) ((Array.range (2 * strE.k)).map (strE.z.cells[· % strE.z.cells.size]!)) [(0, .string s), (1, .string t)] = some #[.string s, .string t] := by kernel_rfl
theorem build_pc2 {w : World} {ops : Array Oper} {rest : List Oper} {o : Oper} {a : Act} {Q : Exit → Act → World → Prop} (hgd : o.guard = none) (x0 x1 : Operand)
    (ho : o.op = .buildSlice 23 2 #[(0, x0), (1, x1)]) (h0 : a.eval x0 = .agg (pcE.cells pcA20).toArray) (h1 : a.eval x1 = .agg (pcE.cells pcA20).toArray)
    (h : ∀ w', Ls pcE w' (some ⟨w.heap.size, 0, none⟩) 2 2 [pcA20, pcA20] → Below w.heap.size w w' → wpList Tryz.prog ops Q rest (a.put o.dst (.slice (some ⟨w.heap.size, 0, none⟩) 2 2)) w') : wpList Tryz.prog ops Q (o :: rest) a w := by
  obtain ⟨i0, hi, hz0, hz1, hz2⟩ := info_parts pcOk.info
  refine wpList_buildSlice hgd 23 47 2 _ ho (pcE.cells pcA20 ++ pcE.cells pcA20).toArray i0 _ pcOk.und hi hz0 (by rw [hz1]; decide) (by rw [hz1]; decide) (by rw [hz1]; simp only [List.map_toArray, List.map_cons, List.map_nil, h0, h1]; exact pc_fill2) ?_
  exact h _ (Ls.of_rowG pcOk (Row.new _ _ _) rfl (Nat.le_refl _) (by decide) rfl (by intro x hx; simp at hx; subst hx; exact pcA20_fit)) ((Below.refl _ _).alloc (Nat.le_refl _) _)
theorem gbuild_str2 {w : World} {ops : Array Oper} {rest : List Oper} {o : Oper} {a : Act} {Q : Exit → Act → World → Prop} (gk : Nat) (want : Bool) (gt : Tmp) (hgd : o.guard = some (gk, want)) (x0 x1 : Operand)
    (ho : o.op = .buildSlice 50 2 #[(0, x0), (1, x1)]) (hdst : (ops[gk]?).bind (·.dst) = some gt) (hv : a.eval (.tmp gt) = .bool want) (s t : ByteArray) (h0 : a.eval x0 = .string s) (h1 : a.eval x1 = .string t) (hs : s.size ≤ maxLen) (ht : t.size ≤ maxLen)
    (hk : ∀ w', Ls strE w' (some ⟨w.heap.size, 0, none⟩) 2 2 [s, t] → Below w.heap.size w w' → wpList Tryz.prog ops Q rest (a.put o.dst (.slice (some ⟨w.heap.size, 0, none⟩) 2 2)) w') : wpList Tryz.prog ops Q (o :: rest) a w := by
  obtain ⟨i0, hi, hz0, hz1, hz2⟩ := info_parts strOk.info
  have hw := lg_wanted gk want gt hgd hdst hv
  refine wpList_step fun K hK => ?_
  simp only [hw, if_true]
  refine wp_buildSlice 50 9 2 _ ho #[.string s, .string t] i0 _ strOk.und hi hz0 (by rw [hz1]; decide) (by rw [hz1]; decide) (by rw [hz1]; simp only [List.map_toArray, List.map_cons, List.map_nil, h0, h1]; exact str_fill2 s t) ?_
  exact hK _ _ (hk _ (Ls.of_rowG strOk (Row.new _ _ _) rfl (Nat.le_refl _) (by decide) rfl (by intro x hx; simp at hx; rcases hx with rfl | rfl; exact hs; exact ht)) ((Below.refl _ _).alloc (Nat.le_refl _) _))
theorem ok20_1 : okM snA20 = true := by decide +kernel
theorem ok20_2 : okM snB20 = true := by decide +kernel
theorem add20_1 : addM [] snA20 = ([snA20], 0) := by
  unfold addM
  rw [if_neg (by rw [ok20_1]; decide), if_neg (by decide +kernel), if_neg (by decide)]
  rfl
theorem ahead20 : aheadM snB20 [snA20] = 0 := by decide +kernel
theorem add20_2 : addM [snA20] snB20 = ([snB20, snA20], 0) := by
  unfold addM
  rw [if_neg (by rw [ok20_2]; decide), if_neg (by decide +kernel), if_neg (by decide), ahead20]
  rfl
theorem sn20_fit (s : Sn) (hs : s = snA20 ∨ s = snB20) {g n : Nat} {w : World} (hp : Ls pcE w (some ⟨g, 0, none⟩) n n s.P) : SnX.fit w ⟨s, some ⟨g, 0, none⟩, n, n⟩ := by
  rcases hs with rfl | rfl
  · exact ⟨show snA20.sp.size ≤ maxLen by decide, show snA20.nm.size ≤ maxLen by decide, show SI64 snA20.by' from ⟨by decide, by decide⟩, show SI64 snA20.ti from ⟨by decide, by decide⟩, show SI64 snA20.ke from ⟨by decide, by decide⟩, hp⟩
  · exact ⟨show snB20.sp.size ≤ maxLen by decide, show snB20.nm.size ≤ maxLen by decide, show SI64 snB20.by' from ⟨by decide, by decide⟩, show SI64 snB20.ti from ⟨by decide, by decide⟩, show SI64 snB20.ke from ⟨by decide, by decide⟩, hp⟩
theorem sums20 : sumsM [snB20, snA20] = [zs20, zs20, zs20] := rfl
theorem sort20 : sortM [zs20, zs20, zs20] = [zs20, zs20, zs20] := by
  unfold sortM
  have h : (byL [zs20, zs20, zs20]).mergeSort (fun x y => decide (x ≤ y)) = List.replicate 3 zs20.data.toList := by
    refine List.eq_replicate_iff.2 ⟨by rw [List.length_mergeSort]; rfl, fun b hb => ?_⟩
    have := (List.mergeSort_perm (byL [zs20, zs20, zs20]) (fun x y => decide (x ≤ y))).mem_iff.1 hb
    simpa [byL] using this
  rw [h]
  rfl
theorem needs20 : (needsM [snB20, snA20]).length = 1 := by
  unfold needsM
  rw [sums20, sort20]
  decide +kernel
theorem names20 : namesM [snB20, snA20] ⟨#[97]⟩ = [⟨#[98]⟩, ⟨#[120]⟩] := by decide +kernel
theorem SnO.snn {w : World} {base n : Nat} {v : Value} {L : List Sn} (h : SnO w base v L) (hn : L.length = n) : ∃ a c, v = .slice a n c ∧ SnL w a n c L := by subst hn; exact h.snl
theorem LsO.lsn {α : Type} {E : El α} {P : Program} (hE : E.Ok P) {w : World} {base n : Nat} {v : Value} {L : List α} (h : LsO E w base v L) (hn : L.length = n) (hf : ∀ x ∈ L, E.fit w x) : ∃ a c, v = .slice a n c ∧ Ls E w a n c L := by
  subst hn
  obtain ⟨a, c, e, hl, -⟩ := h.ls hE hf
  exact ⟨a, c, e, hl⟩
set_option maxRecDepth 100000 in
set_option maxHeartbeats 16000000 in
theorem awake20 (w : World) : Calls Tryz.prog 5 #[] w fun x w' => x = .returned (.bool true) ∧ Below w.heap.size w w' := by
  have PSZ := Lib.hid pc_size
  have PMZ := Lib.hid pc_zero
  have H1 := Lib.hid (fun (g : Nat) (w' : World) (hp : Ls pcE w' (some ⟨g, 0, none⟩) 1 1 [pcA20]) => pmadd ⟨snA20, some ⟨g, 0, none⟩, 1, 1⟩ none 0 0 [] w' ⟨[], Ls.nil _, rfl⟩ (fun s hs => by cases hs) (by decide) (sn20_fit _ (.inl rfl) hp) (show snA20.P.length ≤ 1000 by decide))
  have H2 := Lib.hid (fun (g : Nat) (a : Option Addr) (c : Nat) (w' : World) (hl : SnL w' a 1 c [snA20]) (hp : Ls pcE w' (some ⟨g, 0, none⟩) 2 2 [pcA20, pcA20]) => pmadd ⟨snB20, some ⟨g, 0, none⟩, 2, 2⟩ a 1 c [snA20] w' hl (fun s hs => by simp at hs; subst hs; decide) (by decide) (sn20_fit _ (.inr rfl) hp) (show snB20.P.length ≤ 1000 by decide))
  dsimp only at H1 H2
  simp only [add20_1] at H1
  simp only [add20_2] at H2
  have hfew : FewP [snB20, snA20] := by intro s hs; simp at hs; rcases hs with rfl | rfl <;> decide
  have H3 := Lib.hid (fun (a : Option Addr) (c : Nat) (w' : World) (hl : SnL w' a 2 c [snB20, snA20]) => pmneeds psort pcompact a 2 c [snB20, snA20] w' hl hfew (by decide))
  have H4 := Lib.hid (fun (a : Option Addr) (c : Nat) (w' : World) (hl : SnL w' a 2 c [snB20, snA20]) => pmnames ⟨#[97]⟩ a 2 c [snB20, snA20] w' hl (by decide))
  have H5 := Lib.hid (fun (a a' : Option Addr) (c c' : Nat) (w' : World) (h1 : Ls strE w' a 2 c [⟨#[98]⟩, ⟨#[120]⟩]) (h2 : Ls strE w' a' 2 c' [⟨#[98]⟩, ⟨#[120]⟩]) => strequal a a' 2 c 2 c' _ _ w' true h1 h2 (by simp))
  simp only [names20] at H4
  have FZ := Lib.hid (show ∀ w', ∀ x ∈ ([⟨#[98]⟩, ⟨#[120]⟩] : List ByteArray), strE.fit w' x from fun w' x hx => by simp at hx; rcases hx with rfl | rfl; exact (show (⟨#[98]⟩ : ByteArray).size ≤ maxLen by decide); exact (show (⟨#[120]⟩ : ByteArray).size ≤ maxLen by decide))
  clear hfew
  go_enter Tryz.func5, Tryz.ntmps5
  go_wp2_with (first
    | ((with_reducible refine make_blk (o := ⟨some 5, _, _, _, _, _⟩) rfl _ _ rfl 32 32 ?_ ?_ rfl (by decide) ?_); (focus go_simp); (focus go_simp); intro w1 hk hb hz; have hcv := conv_rd (hk.rd' 32 (by simp) (by decide)); have B1 := Lib.hid hb; clear hk hb hz)
    | ((with_reducible refine build_row (o := ⟨some 7, _, _, _, _, _⟩) rfl _ _ rfl pcA20.cells ?_ ?_); (focus (go_simp; exact pc_built20)))
    | ((with_reducible refine alloc_row (o := ⟨some 1, _, _, _, _, _⟩) rfl _ rfl _ PMZ.out ?_); intro w2 hr hb hz; have R2 := Lib.hid hr; have B2 := Lib.hid (B1.out.trans (hb.mono B1.out.size)); clear hr hb hz)
    | ((with_reducible refine store_row (o := ⟨none, _, _, _, _, _⟩) rfl _ (.tmp 1) _ rfl w1.heap.size pcA20.cells ?_ ?_ 47 _ R2.out ?_ ?_ ?_ ?_); (focus go_simp); (focus (first | (go_simp; done) | (go_simp; rfl))); (focus (exact PSZ.out)); (focus rfl); (focus (exact pc_one pcA20)); intro w3 hr hu; have R3 := Lib.hid hr; have B3 := Lib.hid (B2.out.trans (hu.below B1.out.size)); clear hr hu)
    | ((with_reducible refine load_row (o := ⟨some 9, _, _, _, _, _⟩) rfl _ _ rfl w1.heap.size ?_ _ pcA20.cells _ R3.out Tryz.underlying47 rfl ?_ ?_); (focus go_simp); (focus (exact PSZ.out)))
    | ((with_reducible refine build_rowM pcOk pc_fill1 (o := ⟨some 10, _, _, _, _, _⟩) rfl _ rfl (by decide) ?_ ?_); (focus (first | (go_simp; done) | (go_simp; rfl))); intro w4 hl hb hz; have X4 := Lib.hid (show Ls pcE w4 (some ⟨w3.heap.size, 0, none⟩) 1 1 [pcA20] from Ls.of_rowG pcOk hl rfl (Nat.le_refl _) (by decide) rfl (by intro x hx; simp at hx; subst hx; exact pcA20_fit)); have R4 := Lib.hid (R3.out.below hb R3.out.lt); have B4 := Lib.hid (B3.out.trans (hb.mono B3.out.size)); clear hl hb hz)
    | ((with_reducible refine build_row (o := ⟨some 11, _, _, _, _, _⟩) rfl _ _ rfl (snC ⟨#[97]⟩ ⟨#[120]⟩ 5 0 0 (some ⟨w3.heap.size, 0, none⟩) 1 1) ?_ ?_); (focus (go_simp; exact snA_built20 _)))
    | (go_at_call 25; (with_reducible refine (H1.out w3.heap.size w4 X4.out).mono ?_); rintro x w5 ⟨v5, rfl, hs, hb⟩; obtain ⟨a5, c5, rfl, hsl⟩ := hs.snn (n := 1) rfl; have S5 := Lib.hid hsl; have R5 := Lib.hid (R4.out.below hb R4.out.lt); have B5 := Lib.hid (B4.out.trans (hb.mono B4.out.size)); clear hs hsl hb)
    | ((with_reducible refine load_row (o := ⟨some 17, _, _, _, _, _⟩) rfl _ _ rfl w1.heap.size ?_ _ pcA20.cells _ R5.out Tryz.underlying47 rfl ?_ ?_); (focus go_simp); (focus (exact PSZ.out)))
    | ((with_reducible refine load_row (o := ⟨some 18, _, _, _, _, _⟩) rfl _ _ rfl w1.heap.size ?_ _ pcA20.cells _ R5.out Tryz.underlying47 rfl ?_ ?_); (focus go_simp); (focus (exact PSZ.out)))
    | ((with_reducible refine build_pc2 (o := ⟨some 19, _, _, _, _, _⟩) rfl _ _ rfl ?_ ?_ ?_); (focus (first | (go_simp; done) | (go_simp; rfl))); (focus (first | (go_simp; done) | (go_simp; rfl))); intro w6 hl hb; have X6 := Lib.hid hl; have S6 := Lib.hid (S5.out.mono hb); have B6 := Lib.hid (B5.out.trans (hb.mono B5.out.size)); clear hl hb)
    | ((with_reducible refine build_row (o := ⟨some 20, _, _, _, _, _⟩) rfl _ _ rfl (snC ⟨#[97]⟩ ⟨#[98]⟩ 10 0 0 (some ⟨w5.heap.size, 0, none⟩) 2 2) ?_ ?_); (focus (go_simp; exact snB_built20 _)))
    | (go_at_call 25; (with_reducible refine (H2.out w5.heap.size a5 c5 w6 S6.out X6.out).mono ?_); rintro x w7 ⟨v7, rfl, hs, hb⟩; obtain ⟨a7, c7, rfl, hsl⟩ := hs.snn (n := 2) rfl; have S7 := Lib.hid hsl; have B7 := Lib.hid (B6.out.trans (hb.mono B6.out.size)); clear hs hsl hb)
    | (go_at_call 26; (with_reducible refine (H3.out a7 c7 w7 S7.out).mono ?_); rintro x w8 ⟨v8, rfl, hl, hb⟩; obtain ⟨a8, c8, rfl, -⟩ := lso_form (n := 1) hl needs20; have S8 := Lib.hid (S7.out.mono hb); have B8 := Lib.hid (B7.out.trans (hb.mono B7.out.size)); clear hl hb)
    | (go_at_call 28; (with_reducible refine (H4.out a7 c7 w8 S8.out).mono ?_); rintro x w9 ⟨v9, rfl, hl, hb⟩; obtain ⟨a9, c9, rfl, hls⟩ := hl.lsn (n := 2) strOk rfl (FZ.out w); have L9 := Lib.hid hls; have B9 := Lib.hid (B8.out.trans (hb.mono B8.out.size)); clear hl hls hb)
    | ((with_reducible refine gbuild_str2 (o := ⟨some 39, _, _, _, _, _⟩) 12 true 36 rfl _ _ rfl ?_ ?_ ⟨#[98]⟩ ⟨#[120]⟩ ?_ ?_ ?_ ?_ ?_); (focus rfl); (focus (first | (go_simp; done) | (go_simp; rfl))); (focus (first | (go_simp; done) | (go_simp; rfl))); (focus (first | (go_simp; done) | (go_simp; rfl))); (focus decide); (focus decide); intro wA hl hb; have XA := Lib.hid hl; have LA := Lib.hid (L9.out.mono strOk hb); have BA := Lib.hid (B9.out.trans (hb.mono B9.out.size)); clear hl hb)
    | (go_at_call 27; (with_reducible refine (H5.out a9 _ c9 2 wA LA.out XA.out).mono ?_); rintro x wB ⟨rfl, hb⟩; have BB := Lib.hid (BA.out.trans (hb.mono BA.out.size)); clear hb))
  go_ret
  exact ⟨by first | rfl | exact one (vbool (by simp)), BB.out⟩
end Go.Proofs.YtjolmjbhpokgmaaGreat.W
