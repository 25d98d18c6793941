/- LAYER 20 (manifest): lists of strings; Names of the program. -/
import Derived.Test.YtdinfpjckmgihaaMfG
set_option linter.unusedSimpArgs false
set_option linter.unusedVariables false
namespace Go.Proofs.Ytdinfpjckmgihaa.W
open Go Go.ChangeShapes Go.WideShapes Go.ChangeAt Go.RowKit
open Go.Proofs.Ytdinfpjckmgihaa.P (enc dec)
open Go.Proofs.Ytdinfpjckmgihaa.S

@[reducible] def strE : El ByteArray := ⟨45, 9, 1, 16, .string ⟨#[]⟩, fun s => [.string s], fun _ s => s.size ≤ maxLen⟩
theorem strOk : strE.Ok Try.prog where
  und := Try.underlying45
  info := by kernel_rfl
  zs := rfl
  pos := by decide
  len := fun _ => rfl
  one := fun s v hv => by simp at hv; subst hv; rfl
  mono := fun _ _ _ h _ => h
  small := by decide
theorem str_fill (s : ByteArray) : Instr.fill (fun i => some (i * strE.k, strE.k)) ((Array.range (1 * strE.k)).map (strE.z.cells[· % strE.z.cells.size]!)) [(0, .string s)] = some #[.string s] := by kernel_rfl
theorem str_row {w : World} {g : Nat} {s : ByteArray} (hr : Row w g 9 [.string s]) (hs : s.size ≤ maxLen) : Ls strE w (some ⟨g, 0, none⟩) 1 1 [s] := by
  refine ⟨rfl, Nat.le_refl _, by omega, by simpa using hs, (fun h => by cases h), .inr ⟨g, 0, rfl, hr.lt, fun i x hi j v hj => ?_⟩⟩
  have hi1 : i < 1 := (List.getElem?_eq_some_iff.1 hi).1
  have hj1 : j < 1 := (List.getElem?_eq_some_iff.1 hj).1
  obtain rfl : i = 0 := by omega
  obtain rfl : j = 0 := by omega
  simp at hi hj
  subst hi hj
  show w.cell? ⟨g, 0 + 0 * 1 + 0, none⟩ = _
  rw [hr.cellV]
  rfl
theorem build_str {w : World} {ops : Array Oper} {rest : List Oper} {o : Oper} {a : Act} {Q : Exit → Act → World → Prop} (hgd : o.guard = none) (x : Operand)
    (ho : o.op = .buildSlice 45 1 #[(0, x)]) (s : ByteArray) (hx : a.eval x = .string s) (hs : s.size ≤ maxLen)
    (h : ∀ w', Ls strE w' (some ⟨w.heap.size, 0, none⟩) 1 1 [s] → Below w.heap.size w w' → wpList Try.prog ops Q rest (a.put o.dst (.slice (some ⟨w.heap.size, 0, none⟩) 1 1)) w') : wpList Try.prog ops Q (o :: rest) a w := by
  obtain ⟨i0, hi, hz0, hz1, hz2⟩ := info_parts strOk.info
  refine wpList_buildSlice hgd 45 9 1 _ ho #[.string s] i0 _ strOk.und hi hz0 (by rw [hz1]; decide) (by rw [hz1]; decide) (by rw [hz1]; simp only [List.map_toArray, List.map_cons, List.map_nil, hx]; exact str_fill s) ?_
  exact h _ (str_row (Row.new _ _ _) hs) ((Below.refl _ _).alloc (Nat.le_refl _) _)
theorem namesM_next (L : List Sn) (sp : ByteArray) (k : Nat) (s : Sn) (h : L[k]? = some s) : namesM (L.take (k + 1)) sp = namesM (L.take k) sp ++ (if eqM s.sp sp = true then [s.nm] else []) := by
  have hk := (List.getElem?_eq_some_iff.1 h)
  obtain ⟨hk1, hk2⟩ := hk
  rw [List.take_succ_eq_append_getElem hk1, hk2]
  unfold namesM
  rw [List.filter_append, List.map_append]
  by_cases e : eqM s.sp sp = true <;> simp [e]
theorem namesM_len (L : List Sn) (sp : ByteArray) : (namesM L sp).length ≤ L.length := by
  unfold namesM; rw [List.length_map]; exact List.length_filter_le _ _
theorem lso_ptr_lt {α : Type} {E : El α} {w : World} {base g : Nat} {v : Value} {L : List α} (h : LsO E w base v L) (e : v.ownBlock = some g) : g < w.heap.size := (World.ownsRow.lt h g e).2
set_option maxRecDepth 100000 in
set_option maxHeartbeats 16000000 in
theorem pmnames (sp : ByteArray) (a : Option Addr) (n c : Nat) (L : List Sn) (w : World) (h : SnL w a n c L) (hn : n ≤ 1000) :
    Calls Try.prog 23 #[.slice a n c, .string sp] w fun x w' => ∃ v, x = .returned v ∧ LsO strE w' w.heap.size v (namesM L sp) ∧ Below w.heap.size w w' := by
  obtain ⟨X, hX, hXL⟩ := h
  have H := Lib.hid hX
  have HLN := Lib.hid (show L.length = n by rw [← hXL, List.length_map, hX.hlen])
  have HXL := Lib.hid hXL
  have hm := hX.hmax
  have hle := hX.hle
  have SZ := Lib.hid sn_size
  have MZ := Lib.hid sn_zero
  have HN := Lib.hid hn
  clear hX hXL hn
  go_enter Try.func23, Try.ntmps23
  go_wp2_with fail
  go_loopw [5, 10] (fun v i wr => ∃ k : Nat, i = .int .i64 (k : Int) ∧ k ≤ n ∧ Hid (LsO strE wr w.heap.size v (namesM (L.take k) sp)) ∧ Hid (Below w.heap.size w wr)) (fun _ i _ => n - (intOf i).toNat)
  case atStart => exact ⟨0, rfl, Nat.zero_le _, Lib.hid (LsO.nil _ _), Lib.hid (Below.refl _ _)⟩
  case round =>
    obtain ⟨k, rfl, hk, O, B⟩ := hrel
    by_cases hlt : k < n
    · obtain ⟨b, off, x, rfl, hx, hcell, hfx⟩ := H.out.at snOk B.out k hlt
      have hnx := namesM_next L sp k x.s (map_at HXL.out hx)
      have HNL := Lib.hid (show (namesM (L.take k) sp).length + 1 ≤ 1000000 by
        have h1 := namesM_len (L.take k) sp
        have h2 := HN.out
        rw [List.length_take] at h1; omega)
      obtain ⟨⟨xs, xn, xb, xt, xk, P⟩, xa, xm, xc⟩ := x
      have XC := Lib.hid hcell
      have FN := Lib.hid (show xn.size ≤ maxLen from hfx.nm)
      obtain ⟨q, hq⟩ : ∃ q, (xs.toList == sp.toList) = q := ⟨_, rfl⟩
      have HX := Lib.hid (show namesM (L.take (k + 1)) sp = namesM (L.take k) sp ++ (if q = true then [xn] else []) by rw [hnx, ← hq]; rfl)
      have g1 : (0 : Int) ≤ (k : Int) := by omega
      have g2 : (k : Int) < (n : Int) := by omega
      clear hx hcell hfx hnx
      cases q
      · go_wp2_with (first
          | ((with_reducible refine load_cells (o := ⟨some 13, _, _, _, _, _⟩) rfl _ _ rfl b (off + k * 6) ?_ (snC xs xn xb xt xk xa xm xc) _ XC.out Try.underlying25 rfl ?_ ?_); (focus go_simp); (focus (exact SZ.out)))
          | ((with_reducible refine alloc_row (o := ⟨some 7, _, _, _, _, _⟩) rfl _ rfl _ MZ.out ?_); intro w5 hr hb hz; have R5 := Lib.hid hr; have O5 := Lib.hid (O.out.kept hb); have B5 := Lib.hid (B.out.trans (hb.mono B.out.size)); clear hr hb hz)
          | ((with_reducible refine store_row (o := ⟨none, _, _, _, _, _⟩) rfl _ (.tmp 7) _ rfl wr.heap.size (snC xs xn xb xt xk xa xm xc) ?_ ?_ 25 _ R5.out ?_ ?_ ?_ ?_); (focus go_simp); (focus (first | (go_simp; done) | (go_simp; rfl))); (focus (exact SZ.out)); (focus rfl); (focus (exact sn_one _ _ _ _ _ _ _ _)); intro w6 hr hu; obtain ⟨d0, d1, d2, d3, d4, d5⟩ := hr.h6s; have O6 := Lib.hid (O5.out.upd hu (fun e => by have h1 := lso_ptr_lt O.out e; omega)); have B6 := Lib.hid (B5.out.trans (hu.below B.out.size)); clear hr hu d2 d3 d4 d5))
        go_roundw
        case rel => exact ⟨k + 1, vint (by omega), by omega, Lib.hid (by rw [HX.out, if_neg (by decide), List.append_nil]; exact O6.out), B6⟩
        case measure => simp [intOf]; omega
      · go_wp2_with (first
          | ((with_reducible refine load_cells (o := ⟨some 13, _, _, _, _, _⟩) rfl _ _ rfl b (off + k * 6) ?_ (snC xs xn xb xt xk xa xm xc) _ XC.out Try.underlying25 rfl ?_ ?_); (focus go_simp); (focus (exact SZ.out)))
          | ((with_reducible refine alloc_row (o := ⟨some 7, _, _, _, _, _⟩) rfl _ rfl _ MZ.out ?_); intro w5 hr hb hz; have R5 := Lib.hid hr; have O5 := Lib.hid (O.out.kept hb); have B5 := Lib.hid (B.out.trans (hb.mono B.out.size)); clear hr hb hz)
          | ((with_reducible refine store_row (o := ⟨none, _, _, _, _, _⟩) rfl _ (.tmp 7) _ rfl wr.heap.size (snC xs xn xb xt xk xa xm xc) ?_ ?_ 25 _ R5.out ?_ ?_ ?_ ?_); (focus go_simp); (focus (first | (go_simp; done) | (go_simp; rfl))); (focus (exact SZ.out)); (focus rfl); (focus (exact sn_one _ _ _ _ _ _ _ _)); intro w6 hr hu; obtain ⟨d0, d1, d2, d3, d4, d5⟩ := hr.h6s; have O6 := Lib.hid (O5.out.upd hu (fun e => by have h1 := lso_ptr_lt O.out e; omega)); have B6 := Lib.hid (B5.out.trans (hu.below B.out.size)); clear hr hu d2 d3 d4 d5)
          | ((with_reducible refine build_str (o := ⟨some 21, _, _, _, _, _⟩) rfl _ rfl xn ?_ FN.out ?_); (focus (first | (go_simp; done) | (go_simp; rfl))); intro w7 hl hb; have M7 := Lib.hid hl; have O7 := Lib.hid (O6.out.kept hb); have B7 := Lib.hid (B6.out.trans (hb.mono B6.out.size)); clear hl hb)
          | ((with_reducible refine append_ls strOk (o := ⟨some 22, _, _, _, _, _⟩) rfl _ _ rfl w.heap.size _ (namesM (L.take k) sp) ?_ O7.out (some ⟨w6.heap.size, 0, none⟩) 1 1 [xn] ?_ M7.out HNL.out B7.out.size ?_); (focus (first | (go_simp; done) | (go_simp; rfl))); (focus (first | (go_simp; done) | (go_simp; rfl))); intro v8 w8 hN hb2 hg2 hv2; have N8 := Lib.hid hN; have B8 := Lib.hid (B7.out.trans hb2); clear hN hb2 hg2 hv2))
        go_roundw
        case rel => exact ⟨k + 1, vint (by omega), by omega, Lib.hid (by rw [HX.out, if_pos rfl]; exact N8.out), B8⟩
        case measure => simp [intOf]; omega
    · obtain rfl : n = k := by omega
      have ht : L.take n = L := List.take_of_length_le (by rw [HLN.out]; exact Nat.le_refl _)
      rw [ht] at O
      go_wp2_with fail
      go_ret
      exact ⟨_, rfl, O.out, B.out⟩
end Go.Proofs.Ytdinfpjckmgihaa.W
