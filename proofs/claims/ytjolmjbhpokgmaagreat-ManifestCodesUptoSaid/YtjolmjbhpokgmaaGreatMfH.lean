/- LAYER 20 (manifest): lists of strings; Names of the program. LAYER 20 (manifest): Needs of the program, out of contracts on slices.Sort and slices.Compact. -/
import Derived.Test.YtjolmjbhpokgmaaGreatMfG
import Derived.Lib.SlicesCompact
set_option linter.unusedSimpArgs false
set_option linter.unusedVariables false
namespace Go.Proofs.YtjolmjbhpokgmaaGreat.W
open Go Go.ChangeShapes Go.WideShapes Go.ChangeAt Go.RowKit
open Go.Proofs.YtjolmjbhpokgmaaGreat.P (enc dec)
open Go.Proofs.YtjolmjbhpokgmaaGreat.S

@[reducible] def strE : El ByteArray := ⟨50, 9, 1, 16, .string ⟨#[]⟩, fun s => [.string s], fun _ s => s.size ≤ maxLen⟩
theorem strOk : strE.Ok Tryz.prog where
  und := Tryz.underlying50
  info := by kernel_rfl
  zs := rfl
  pos := by decide
  len := fun _ => rfl
  one := fun s v hv => by simp at hv; subst hv; rfl
  mono := fun _ _ _ h _ => h
  small := by decide
theorem str_fill (s : ByteArray) : Instr.fill (fun i => some (i * strE.k, strE.k)) ((Array.range (1 * strE.k)).map (strE.z.cells[· % strE.z.cells.size]!)) [(0, .string s)] = some #[.string s] := by kernel_rfl
theorem str_row {w : World} {g : Nat} {s : ByteArray} (hr : Row w g 9 [.string s]) (hs : s.size ≤ maxLen) : Ls strE w (some ⟨g, 0, none⟩) 1 1 [s] := by
  refine ⟨rfl, Nat.le_refl _, by omega, by simpa using hs, (fun h => by cases h), .inr ⟨g, 0, rfl, hr.lt, fun i x hi j v hj => ?_⟩⟩
  have hi1 : i < 1 := (List.getElem?_eq_some_iff.1 hi).1
  have hj1 : j < 1 := (List.getElem?_eq_some_iff.1 hj).1
  obtain rfl : i = 0 := by omega
  obtain rfl : j = 0 := by omega
  simp at hi hj
  subst hi hj
  show w.cell? ⟨g, 0 + 0 * 1 + 0, none⟩ = _
  rw [hr.cellV]
  rfl
theorem build_str {w : World} {ops : Array Oper} {rest : List Oper} {o : Oper} {a : Act} {Q : Exit → Act → World → Prop} (hgd : o.guard = none) (x : Operand)
    (ho : o.op = .buildSlice 50 1 #[(0, x)]) (s : ByteArray) (hx : a.eval x = .string s) (hs : s.size ≤ maxLen)
    (h : ∀ w', Ls strE w' (some ⟨w.heap.size, 0, none⟩) 1 1 [s] → Below w.heap.size w w' → wpList Tryz.prog ops Q rest (a.put o.dst (.slice (some ⟨w.heap.size, 0, none⟩) 1 1)) w') : wpList Tryz.prog ops Q (o :: rest) a w := by
  obtain ⟨i0, hi, hz0, hz1, hz2⟩ := info_parts strOk.info
  refine wpList_buildSlice hgd 50 9 1 _ ho #[.string s] i0 _ strOk.und hi hz0 (by rw [hz1]; decide) (by rw [hz1]; decide) (by rw [hz1]; simp only [List.map_toArray, List.map_cons, List.map_nil, hx]; exact str_fill s) ?_
  exact h _ (str_row (Row.new _ _ _) hs) ((Below.refl _ _).alloc (Nat.le_refl _) _)
theorem namesM_next (L : List Sn) (sp : ByteArray) (k : Nat) (s : Sn) (h : L[k]? = some s) : namesM (L.take (k + 1)) sp = namesM (L.take k) sp ++ (if eqM s.sp sp = true then [s.nm] else []) := by
  have hk := (List.getElem?_eq_some_iff.1 h)
  obtain ⟨hk1, hk2⟩ := hk
  rw [List.take_succ_eq_append_getElem hk1, hk2]
  unfold namesM
  rw [List.filter_append, List.map_append]
  by_cases e : eqM s.sp sp = true <;> simp [e]
theorem namesM_len (L : List Sn) (sp : ByteArray) : (namesM L sp).length ≤ L.length := by
  unfold namesM; rw [List.length_map]; exact List.length_filter_le _ _
theorem lso_ptr_lt {α : Type} {E : El α} {w : World} {base g : Nat} {v : Value} {L : List α} (h : LsO E w base v L) (e : v.ownBlock = some g) : g < w.heap.size := (World.ownsRow.lt h g e).2
set_option maxRecDepth 100000 in
set_option maxHeartbeats 16000000 in
theorem pmnames (sp : ByteArray) (a : Option Addr) (n c : Nat) (L : List Sn) (w : World) (h : SnL w a n c L) (hn : n ≤ 1000) :
    Calls Tryz.prog 28 #[.slice a n c, .string sp] w fun x w' => ∃ v, x = .returned v ∧ LsO strE w' w.heap.size v (namesM L sp) ∧ Below w.heap.size w w' := by
  obtain ⟨X, hX, hXL⟩ := h
  have H := Lib.hid hX
  have HLN := Lib.hid (show L.length = n by rw [← hXL, List.length_map, hX.hlen])
  have HXL := Lib.hid hXL
  have hm := hX.hmax
  have hle := hX.hle
  have SZ := Lib.hid sn_size
  have MZ := Lib.hid sn_zero
  have HN := Lib.hid hn
  clear hX hXL hn
  go_enter Tryz.func28, Tryz.ntmps28
  go_wp2_with fail
  go_loopw [5, 10] (fun v i wr => ∃ k : Nat, i = .int .i64 (k : Int) ∧ k ≤ n ∧ Hid (LsO strE wr w.heap.size v (namesM (L.take k) sp)) ∧ Hid (Below w.heap.size w wr)) (fun _ i _ => n - (intOf i).toNat)
  case atStart => exact ⟨0, rfl, Nat.zero_le _, Lib.hid (LsO.nil _ _), Lib.hid (Below.refl _ _)⟩
  case round =>
    obtain ⟨k, rfl, hk, O, B⟩ := hrel
    by_cases hlt : k < n
    · obtain ⟨b, off, x, rfl, hx, hcell, hfx⟩ := H.out.at snOk B.out k hlt
      have hnx := namesM_next L sp k x.s (map_at HXL.out hx)
      have HNL := Lib.hid (show (namesM (L.take k) sp).length + 1 ≤ 1000000 by
        have h1 := namesM_len (L.take k) sp
        have h2 := HN.out
        rw [List.length_take] at h1; omega)
      obtain ⟨⟨xs, xn, xb, xt, xk, P⟩, xa, xm, xc⟩ := x
      have XC := Lib.hid hcell
      have FN := Lib.hid (show xn.size ≤ maxLen from hfx.nm)
      obtain ⟨q, hq⟩ : ∃ q, (xs.toList == sp.toList) = q := ⟨_, rfl⟩
      have HX := Lib.hid (show namesM (L.take (k + 1)) sp = namesM (L.take k) sp ++ (if q = true then [xn] else []) by rw [hnx, ← hq]; rfl)
      have g1 : (0 : Int) ≤ (k : Int) := by omega
      have g2 : (k : Int) < (n : Int) := by omega
      clear hx hcell hfx hnx
      cases q
      · go_wp2_with (first
          | ((with_reducible refine load_cells (o := ⟨some 13, _, _, _, _, _⟩) rfl _ _ rfl b (off + k * 6) ?_ (snC xs xn xb xt xk xa xm xc) _ XC.out Tryz.underlying45 rfl ?_ ?_); (focus go_simp); (focus (exact SZ.out)))
          | ((with_reducible refine alloc_row (o := ⟨some 7, _, _, _, _, _⟩) rfl _ rfl _ MZ.out ?_); intro w5 hr hb hz; have R5 := Lib.hid hr; have O5 := Lib.hid (O.out.kept hb); have B5 := Lib.hid (B.out.trans (hb.mono B.out.size)); clear hr hb hz)
          | ((with_reducible refine store_row (o := ⟨none, _, _, _, _, _⟩) rfl _ (.tmp 7) _ rfl wr.heap.size (snC xs xn xb xt xk xa xm xc) ?_ ?_ 45 _ R5.out ?_ ?_ ?_ ?_); (focus go_simp); (focus (first | (go_simp; done) | (go_simp; rfl))); (focus (exact SZ.out)); (focus rfl); (focus (exact sn_one _ _ _ _ _ _ _ _)); intro w6 hr hu; obtain ⟨d0, d1, d2, d3, d4, d5⟩ := hr.h6s; have O6 := Lib.hid (O5.out.upd hu (fun e => by have h1 := lso_ptr_lt O.out e; omega)); have B6 := Lib.hid (B5.out.trans (hu.below B.out.size)); clear hr hu d2 d3 d4 d5))
        go_roundw
        case rel => exact ⟨k + 1, vint (by omega), by omega, Lib.hid (by rw [HX.out, if_neg (by decide), List.append_nil]; exact O6.out), B6⟩
        case measure => simp [intOf]; omega
      · go_wp2_with (first
          | ((with_reducible refine load_cells (o := ⟨some 13, _, _, _, _, _⟩) rfl _ _ rfl b (off + k * 6) ?_ (snC xs xn xb xt xk xa xm xc) _ XC.out Tryz.underlying45 rfl ?_ ?_); (focus go_simp); (focus (exact SZ.out)))
          | ((with_reducible refine alloc_row (o := ⟨some 7, _, _, _, _, _⟩) rfl _ rfl _ MZ.out ?_); intro w5 hr hb hz; have R5 := Lib.hid hr; have O5 := Lib.hid (O.out.kept hb); have B5 := Lib.hid (B.out.trans (hb.mono B.out.size)); clear hr hb hz)
          | ((with_reducible refine store_row (o := ⟨none, _, _, _, _, _⟩) rfl _ (.tmp 7) _ rfl wr.heap.size (snC xs xn xb xt xk xa xm xc) ?_ ?_ 45 _ R5.out ?_ ?_ ?_ ?_); (focus go_simp); (focus (first | (go_simp; done) | (go_simp; rfl))); (focus (exact SZ.out)); (focus rfl); (focus (exact sn_one _ _ _ _ _ _ _ _)); intro w6 hr hu; obtain ⟨d0, d1, d2, d3, d4, d5⟩ := hr.h6s; have O6 := Lib.hid (O5.out.upd hu (fun e => by have h1 := lso_ptr_lt O.out e; omega)); have B6 := Lib.hid (B5.out.trans (hu.below B.out.size)); clear hr hu d2 d3 d4 d5)
          | ((with_reducible refine build_str (o := ⟨some 21, _, _, _, _, _⟩) rfl _ rfl xn ?_ FN.out ?_); (focus (first | (go_simp; done) | (go_simp; rfl))); intro w7 hl hb; have M7 := Lib.hid hl; have O7 := Lib.hid (O6.out.kept hb); have B7 := Lib.hid (B6.out.trans (hb.mono B6.out.size)); clear hl hb)
          | ((with_reducible refine append_ls strOk (o := ⟨some 22, _, _, _, _, _⟩) rfl _ _ rfl w.heap.size _ (namesM (L.take k) sp) ?_ O7.out (some ⟨w6.heap.size, 0, none⟩) 1 1 [xn] ?_ M7.out HNL.out B7.out.size ?_); (focus (first | (go_simp; done) | (go_simp; rfl))); (focus (first | (go_simp; done) | (go_simp; rfl))); intro v8 w8 hN hb2 hg2 hv2; have N8 := Lib.hid hN; have B8 := Lib.hid (B7.out.trans hb2); clear hN hb2 hg2 hv2))
        go_roundw
        case rel => exact ⟨k + 1, vint (by omega), by omega, Lib.hid (by rw [HX.out, if_pos rfl]; exact N8.out), B8⟩
        case measure => simp [intOf]; omega
    · obtain rfl : n = k := by omega
      have ht : L.take n = L := List.take_of_length_le (by rw [HLN.out]; exact Nat.le_refl _)
      rw [ht] at O
      go_wp2_with fail
      go_ret
      exact ⟨_, rfl, O.out, B.out⟩
end Go.Proofs.YtjolmjbhpokgmaaGreat.W

namespace Go.Proofs.YtjolmjbhpokgmaaGreat.W
open Go Go.ChangeShapes Go.WideShapes Go.ChangeAt Go.RowKit
open Go.Proofs.YtjolmjbhpokgmaaGreat.P (enc dec)
open Go.Proofs.YtjolmjbhpokgmaaGreat.S

def byL (L : List ByteArray) : List (List UInt8) := L.map (·.data.toList)
def ofL (ss : List (List UInt8)) : List ByteArray := ss.map (fun s => ⟨s.toArray⟩)
theorem ofL_byL (L : List ByteArray) : ofL (byL L) = L := by
  unfold ofL byL
  rw [List.map_map]
  have : ((fun s => (⟨s.toArray⟩ : ByteArray)) ∘ fun b : ByteArray => b.data.toList) = id := by funext b; simp
  rw [this, List.map_id]
theorem ofL_len (ss : List (List UInt8)) : (ofL ss).length = ss.length := by simp [ofL]
theorem byL_len (L : List ByteArray) : (byL L).length = L.length := by simp [byL]
def sortM (L : List ByteArray) : List ByteArray := ofL ((byL L).mergeSort fun x y => decide (x ≤ y))
def compactM (L : List ByteArray) : List ByteArray := ofL (Lib.compact (byL L))
def needsM (L : List Sn) : List ByteArray := compactM (sortM (sumsM L))
theorem sortM_len (L : List ByteArray) : (sortM L).length = L.length := by unfold sortM; rw [ofL_len, List.length_mergeSort, byL_len]
/-- what slices.Sort makes of strings that the call owns -/
abbrev SortP (f : FuncId) : Prop := ∀ (base : Nat) (v : Value) (L : List ByteArray) (w : World), LsO strE w base v L → L.length ≤ 1000000 → base ≤ w.heap.size → Calls Tryz.prog f #[v] w fun e w' => e = .returned (.tuple #[]) ∧ LsO strE w' base v (sortM L) ∧ Below base w w'
/-- what slices.Compact makes of them -/
abbrev CompP (f : FuncId) : Prop := ∀ (base : Nat) (v : Value) (L : List ByteArray) (w : World), LsO strE w base v L → L.length ≤ 1000000 → base ≤ w.heap.size → Calls Tryz.prog f #[v] w fun e w' => ∃ v', e = .returned v' ∧ LsO strE w' base v' (compactM L) ∧ Below base w w'
theorem sumsM_next (L : List Sn) (k : Nat) (s : Sn) (h : L[k]? = some s) : sumsM (L.take (k + 1)) = sumsM (L.take k) ++ s.P.map (·.sum) := by
  obtain ⟨hk1, hk2⟩ := List.getElem?_eq_some_iff.1 h
  rw [List.take_succ_eq_append_getElem hk1, hk2]
  unfold sumsM
  rw [List.flatMap_append]
  simp
theorem psum_next (P : List Pc) (k : Nat) (p : Pc) (h : P[k]? = some p) : (P.take (k + 1)).map (·.sum) = (P.take k).map (·.sum) ++ [p.sum] := by
  obtain ⟨hk1, hk2⟩ := List.getElem?_eq_some_iff.1 h
  rw [List.take_succ_eq_append_getElem hk1, hk2]
  simp
theorem sumsM_len : ∀ (L : List Sn), FewP L → (sumsM L).length ≤ L.length * 1000
  | [], _ => by simp [sumsM]
  | s :: L, hf => by
    have h1 := sumsM_len L (fun x hx => hf x (List.mem_cons_of_mem _ hx))
    have h2 := hf s (List.mem_cons_self ..)
    unfold sumsM at h1 ⊢
    rw [List.flatMap_cons, List.length_append, List.length_map, List.length_cons]
    omega
set_option maxRecDepth 100000 in
set_option maxHeartbeats 16000000 in
theorem pmneeds (hS : SortP 59) (hC : CompP 60) (a : Option Addr) (n c : Nat) (L : List Sn) (w : World) (h : SnL w a n c L) (hf : FewP L) (hn : n ≤ 900) :
    Calls Tryz.prog 26 #[.slice a n c] w fun x w' => ∃ v, x = .returned v ∧ LsO strE w' w.heap.size v (needsM L) ∧ Below w.heap.size w w' := by
  obtain ⟨X, hX, hXL⟩ := h
  have HS := Lib.hid hS
  have HC := Lib.hid hC
  have H := Lib.hid hX
  have HLN := Lib.hid (show L.length = n by rw [← hXL, List.length_map, hX.hlen])
  have HXL := Lib.hid hXL
  have HFP := Lib.hid hf
  have hm := hX.hmax
  have hle := hX.hle
  have SZ := Lib.hid sn_size
  have MZ := Lib.hid sn_zero
  have PSZ := Lib.hid pc_size
  have PMZ := Lib.hid pc_zero
  have HN := Lib.hid hn
  have HSL := Lib.hid (show ∀ k, (sumsM (L.take k)).length ≤ 900000 from fun k => by
    have h1 := sumsM_len (L.take k) (fun x hx => hf x (List.mem_of_mem_take hx))
    have h2 : (L.take k).length ≤ n := by rw [List.length_take, ← HLN.out]; omega
    omega)
  clear hX hXL hn hf hS hC
  go_enter Tryz.func26, Tryz.ntmps26
  go_wp2_with fail
  go_loopw [3, 10] (fun v i wr => ∃ k : Nat, i = .int .i64 (k : Int) ∧ k ≤ n ∧ Hid (LsO strE wr w.heap.size v (sumsM (L.take k))) ∧ Hid (Below w.heap.size w wr)) (fun _ i _ => n - (intOf i).toNat)
  case atStart => exact ⟨0, rfl, Nat.zero_le _, Lib.hid (LsO.nil _ _), Lib.hid (Below.refl _ _)⟩
  case round =>
    obtain ⟨k, rfl, hk, O, B⟩ := hrel
    by_cases hlt : k < n
    · obtain ⟨b, off, x, rfl, hx, hcell, hfx⟩ := H.out.at snOk B.out k hlt
      have HFX := H.out.hfit x (List.mem_of_getElem? hx)
      have HNX := Lib.hid (sumsM_next L k x.s (map_at HXL.out hx))
      have HPL := Lib.hid (HFP.out.at (map_at HXL.out hx))
      have HK := Lib.hid (HSL.out k)
      obtain ⟨⟨xs, xn, xb, xt, xk, P⟩, xa, xm, xc⟩ := x
      have XC := Lib.hid hcell
      have FP := Lib.hid (show Ls pcE w xa xm xc P from HFX.P)
      have pm1 := HFX.P.hmax
      have pm2 := HFX.P.hle
      dsimp only at pm1 pm2 HNX HPL
      have g1 : (0 : Int) ≤ (k : Int) := by omega
      have g2 : (k : Int) < (n : Int) := by omega
      clear hx hcell hfx HFX
      go_wp2_with (first
          | ((with_reducible refine load_cells (o := ⟨some 13, _, _, _, _, _⟩) rfl _ _ rfl b (off + k * 6) ?_ (snC xs xn xb xt xk xa xm xc) _ XC.out Tryz.underlying45 rfl ?_ ?_); (focus go_simp); (focus (exact SZ.out)))
          | ((with_reducible refine alloc_row (o := ⟨some 5, _, _, _, _, _⟩) rfl _ rfl _ MZ.out ?_); intro w5 hr hb hz; have R5 := Lib.hid hr; have O5 := Lib.hid (O.out.kept hb); have B5 := Lib.hid (B.out.trans (hb.mono B.out.size)); clear hr hb hz)
          | ((with_reducible refine store_row (o := ⟨none, _, _, _, _, _⟩) rfl _ (.tmp 5) _ rfl wr.heap.size (snC xs xn xb xt xk xa xm xc) ?_ ?_ 45 _ R5.out ?_ ?_ ?_ ?_); (focus go_simp); (focus (first | (go_simp; done) | (go_simp; rfl))); (focus (exact SZ.out)); (focus rfl); (focus (exact sn_one _ _ _ _ _ _ _ _)); intro w6 hr hu; obtain ⟨d0, d1, d2, d3, d4, d5⟩ := hr.h6s; have O6 := Lib.hid (O5.out.upd hu (fun e => by have h1 := lso_ptr_lt O.out e; omega)); have B6 := Lib.hid (B5.out.trans (hu.below B.out.size)); clear hr hu d0 d1 d2 d3 d4))
      clear d5
      clear O O5 B5 R5
      go_loopw [3, 17] (fun v i wq => ∃ j : Nat, i = .int .i64 (j : Int) ∧ j ≤ xm ∧ Hid (LsO strE wq w.heap.size v (sumsM (L.take k) ++ (P.take j).map (·.sum))) ∧ Hid (Below w.heap.size w wq)) (fun _ i _ => xm - (intOf i).toNat)
      case atStart => exact ⟨0, rfl, Nat.zero_le _, Lib.hid (by simpa using O6.out), B6⟩
      case round =>
        obtain ⟨j, rfl, hj, Q, BQ⟩ := hrel
        by_cases hjt : j < xm
        · obtain ⟨pb, poff, p, rfl, hp, hpc, hpf⟩ := FP.out.at pcOk BQ.out j hjt
          have HPN := Lib.hid (psum_next P j p hp)
          have HQL := Lib.hid (show (sumsM (L.take k) ++ (P.take j).map (·.sum)).length + 1 ≤ 1000000 by
            have h1 := HK.out
            have h2 := HPL.out
            rw [List.length_append, List.length_map, List.length_take]; omega)
          obtain ⟨ps, pz⟩ := p
          have PCC := Lib.hid hpc
          have FS := Lib.hid (show ps.size ≤ maxLen from hpf.sum)
          have j1 : (0 : Int) ≤ (j : Int) := by omega
          have j2 : (j : Int) < (xm : Int) := by omega
          clear hp hpc hpf
          go_wp2_with (first
            | ((with_reducible refine load_cells (o := ⟨some 20, _, _, _, _, _⟩) rfl _ _ rfl pb (poff + j * 2) ?_ [.string ps, .int .i64 pz] _ PCC.out Tryz.underlying47 rfl ?_ ?_); (focus go_simp); (focus (exact PSZ.out)))
            | ((with_reducible refine alloc_row (o := ⟨some 7, _, _, _, _, _⟩) rfl _ rfl _ PMZ.out ?_); intro w7 hr hb hz; have R7 := Lib.hid hr; have Q7 := Lib.hid (Q.out.kept hb); have B7 := Lib.hid (BQ.out.trans (hb.mono BQ.out.size)); clear hr hb hz)
            | ((with_reducible refine store_row (o := ⟨none, _, _, _, _, _⟩) rfl _ (.tmp 7) _ rfl wr.heap.size [.string ps, .int .i64 pz] ?_ ?_ 47 _ R7.out ?_ ?_ ?_ ?_); (focus go_simp); (focus (first | (go_simp; done) | (go_simp; rfl))); (focus (exact PSZ.out)); (focus rfl); (focus (exact pc_one ⟨ps, pz⟩)); intro w8 hr hu; obtain ⟨e0, e1⟩ := hr.l2; have Q8 := Lib.hid (Q7.out.upd hu (fun e => by have h1 := lso_ptr_lt Q.out e; omega)); have B8 := Lib.hid (B7.out.trans (hu.below BQ.out.size)); clear hr hu e1)
            | ((with_reducible refine build_str (o := ⟨some 24, _, _, _, _, _⟩) rfl _ rfl ps ?_ FS.out ?_); (focus (first | (go_simp; done) | (go_simp; rfl))); intro w9 hl hb; have M9 := Lib.hid hl; have Q9 := Lib.hid (Q8.out.kept hb); have B9 := Lib.hid (B8.out.trans (hb.mono B8.out.size)); clear hl hb)
            | ((with_reducible refine append_ls strOk (o := ⟨some 25, _, _, _, _, _⟩) rfl _ _ rfl w.heap.size _ (sumsM (L.take k) ++ (P.take j).map (·.sum)) ?_ Q9.out (some ⟨w8.heap.size, 0, none⟩) 1 1 [ps] ?_ M9.out HQL.out B9.out.size ?_); (focus (first | (go_simp; done) | (go_simp; rfl))); (focus (first | (go_simp; done) | (go_simp; rfl))); intro v10 w10 hN hb2 hg2 hv2; have Q10 := Lib.hid hN; have B10 := Lib.hid (B9.out.trans hb2); clear hN hb2 hg2 hv2))
          go_roundw
          case rel => exact ⟨j + 1, vint (by omega), by omega, Lib.hid (by rw [HPN.out, ← List.append_assoc]; exact Q10.out), B10⟩
          case measure => simp [intOf]; omega
        · obtain rfl : xm = j := by omega
          have hpt : P.take xm = P := List.take_of_length_le (by rw [FP.out.hlen]; exact Nat.le_refl _)
          rw [hpt, ← HNX.out] at Q
          go_wp2_with fail
          go_roundw
          case rel => exact ⟨k + 1, vint (by omega), by omega, Q, BQ⟩
          case measure => simp [intOf]; omega
    · obtain rfl : n = k := by omega
      have ht : L.take n = L := List.take_of_length_le (by rw [HLN.out]; exact Nat.le_refl _)
      have HK := Lib.hid (show (sumsM L).length ≤ 1000000 by have := HSL.out n; rw [ht] at this; omega)
      rw [ht] at O
      clear ht
      go_wp2_with (first
        | (go_at_call 59; (with_reducible refine (HS.out w.heap.size _ (sumsM L) wr O.out HK.out B.out.size).mono ?_); rintro x w5 ⟨rfl, hl, hb⟩; have O5 := Lib.hid hl; have B5 := Lib.hid (B.out.trans hb); clear hl hb)
        | (go_at_call 60; (with_reducible refine (HC.out w.heap.size _ (sortM (sumsM L)) w5 O5.out (by rw [sortM_len]; exact HK.out) B5.out.size).mono ?_); rintro x w6 ⟨v6, rfl, hl, hb⟩; have O6 := Lib.hid hl; have B6 := Lib.hid (B5.out.trans hb); clear hl hb))
      go_ret
      exact ⟨_, rfl, O6.out, B6.out⟩
end Go.Proofs.YtjolmjbhpokgmaaGreat.W
