/- LAYER 29 (place): Order, Nodes of the program. -/
import Derived.Test.YthbbiiegbddpdaaDoorPlS
set_option linter.unusedSimpArgs false
set_option linter.unusedVariables false
namespace Go.Proofs.YthbbiiegbddpdaaDoor.W
open Go Go.ChangeShapes Go.WideShapes Go.ChangeAt Go.RowKit
open Go.Proofs.YthbbiiegbddpdaaDoor.S
open Go.Proofs.YthbbiiegbddpdaaDoor.P (enc dec shaL shaL_len)

theorem str7_zero : (Tryd.prog.info? 36).map (·.zero) = some (some (.agg (List.replicate 7 (Value.string ⟨#[]⟩)).toArray)) := by kernel_rfl
theorem str_one : (Tryd.prog.info? 9).map (·.size) = some 1 := by kernel_rfl
/-- the marks of the nodes below k -/
def MK (s : ByteArray) (k : Nat) : List ByteArray := (List.range 7).map fun i => if i < k then mkP s (i : Int) else ⟨#[]⟩
theorem MK_len (s : ByteArray) (k : Nat) : (MK s k).length = 7 := by simp [MK]
theorem MK_get (s : ByteArray) (k i : Nat) (h : i < k) (h7 : i < 7) : (MK s k).getD i ⟨#[]⟩ = mkP s (i : Int) := by
  unfold MK
  rw [List.getD_eq_getElem?_getD, List.getElem?_map, List.getElem?_range h7]
  simp [h]
theorem MK_zero (s : ByteArray) : (MK s 0).map Value.string = List.replicate 7 (Value.string ⟨#[]⟩) := by
  refine List.ext_getElem (by simp [MK]) fun i h1 h2 => ?_
  simp only [MK, List.getElem_map, List.getElem_range, List.getElem_replicate]
  rw [if_neg (Nat.not_lt_zero _)]
theorem MK_set (s : ByteArray) (k : Nat) (_h : k < 7) : ((MK s k).map Value.string).set k (.string (mkP s (k : Int))) = (MK s (k + 1)).map Value.string := by
  refine List.ext_getElem (by simp [MK]) fun i h1 h2 => ?_
  simp only [MK, List.getElem_set, List.getElem_map, List.getElem_range]
  by_cases e : k = i
  · subst e; rw [if_pos rfl, if_pos (by omega)]
  · rw [if_neg e]
    by_cases e2 : i < k
    · rw [if_pos e2, if_pos (by omega)]
    · rw [if_neg e2, if_neg (by omega)]
theorem flat_int (L : List Int) : flatE intE L = L.map (Value.int .i64) := by
  induction L with
  | nil => rfl
  | cons x L ih => show [Value.int .i64 x] ++ flatE intE L = _; rw [ih]; rfl
theorem range_next (k : Nat) : (List.range k).map Int.ofNat ++ [(k : Int)] = (List.range (k + 1)).map Int.ofNat := by rw [List.range_succ, List.map_append]; rfl
/-- the sort, at the nodes -/
theorem sort_nodes (s : ByteArray) (N gm : Nat) (base : Nat) (v : Value) (w : World) (hN : N ≤ 7) (hb : base ≤ w.heap.size) (hrm : Row w gm 36 ((MK s N).map Value.string)) (hgm : gm < w.heap.size) (hv : ∀ g, v.ownBlock = some g → g ≠ gm) (h : LsO intE w base v ((List.range N).map Int.ofNat)) :
    Calls Tryd.prog 23 #[v, .func (.func 24) #[] #[.pointer (some ⟨gm, 0, none⟩)]] w fun e w' => e = .returned (.tuple #[]) ∧ LsO intE w' base v (ordL s N) ∧ Below base w w' := by
  have hlen : ((List.range N).map Int.ofNat).length = N := by simp
  rcases h.owr intOk with ⟨rfl, h0⟩ | ⟨g, c, Z, hv2, hg, ho⟩
  · obtain rfl : N = 0 := by rw [h0] at hlen; simpa using hlen.symm
    refine (isortsF0 _ w).mono ?_
    rintro e w' ⟨rfl, rfl⟩
    exact ⟨rfl, LsO.nil _ _, Below.refl _ _⟩
  rw [hlen] at hv2 ho
  subst hv2
  have hgne : g ≠ gm := hv g rfl
  have hrow : Row w g 3 (CI ((List.range N).map Int.ofNat) Z) := by
    have := ho.row
    rw [flat_int] at this
    exact this
  refine (isortsF (ltP s) (ltP_ord s) gm ((MK s N).map Value.string) g c N ((List.range N).map Int.ofNat) Z w hlen hN hrow hrm hgne.symm (N : Int) ?_ ?_).mono ?_
  · intro x hx
    obtain ⟨k, hk, rfl⟩ := List.mem_map.1 hx
    have hk := List.mem_range.1 hk
    show (0 : Int) ≤ (k : Int) ∧ (k : Int) < (N : Int)
    omega
  · intro x y hx hy w hr
    have ex : x = ((x.toNat : Nat) : Int) := by omega
    have ey : y = ((y.toNat : Nat) : Int) := by omega
    have hxN : x.toNat < N := by omega
    have hyN : y.toNat < N := by omega
    have key := plcmp gm (MK s N) (MK_len s N) x.toNat y.toNat (by omega) (by omega) w hr
    rw [MK_get s N _ hxN (by omega), MK_get s N _ hyN (by omega), ← ex, ← ey] at key
    exact key.mono fun e w' h => ⟨_, or_lt s x y, h.1, h.2⟩
  · rintro e w' ⟨rfl, hgw, S, hp, hs, hr⟩
    have hSL := hp.length_eq
    rw [hlen] at hSL
    have hS := ord_uniq s N S hp hs
    subst hS
    refine ⟨rfl, ?_, hgw.below hg hb⟩
    have ho2 : OwR intE w' g N c (ordL s N) Z := ⟨by rw [flat_int]; exact hr, hSL, ho.hnc, ho.hcm, by
      have := ho.hl
      rw [flat_int, List.length_append, List.length_map] at this ⊢
      rw [hSL]; rw [hlen] at this; exact this⟩
    have := ho2.lso intOk hg N (Nat.le_refl _)
    rw [List.take_of_length_le (by omega)] at this
    exact this
set_option maxRecDepth 100000 in
set_option maxHeartbeats 16000000 in
theorem plorder_a (s : ByteArray) (n : Int) (w : World) (hK : Ks w) (hs : s.size ≤ 1000) (hn : SI64 n) (hn7 : n ≤ 7) :
    Calls Tryd.prog 8 #[.string s, .int .i64 n] w fun e w' => ∃ v, e = .returned v ∧ LsO intE w' w.heap.size v (ordP s n) ∧ Below w.heap.size w w' := by
  have Z7 := Lib.hid str7_zero
  have ZS := Lib.hid str_one
  have HK := Lib.hid hK
  obtain ⟨h1, h2⟩ := hn
  obtain ⟨N, hN⟩ : ∃ N, (min n 7).toNat = N := ⟨_, rfl⟩
  have hN7 : N ≤ 7 := by omega
  have hNV : 0 < N → (N : Int) = n := by omega
  have hN0 : N = 0 → n ≤ 0 := by omega
  have HO := Lib.hid (show ordP s n = ordL s N by unfold ordP; rw [hN])
  have HSN := Lib.hid (sort_nodes s N)
  have HM := Lib.hid (fun (k : Nat) (hk : k ≤ 6) (w' : World) (hb : Below w.heap.size w w') => plmark s k w' (HK.out.below hb HK.out.pos) hs hk)
  clear hK hN hs
  go_enter Tryd.func8, Tryd.ntmps8
  go_wp2_with (first
    | ((with_reducible refine alloc_row (o := ⟨some 5, _, _, _, _, _⟩) rfl _ rfl (List.replicate 7 (Value.string ⟨#[]⟩)) Z7.out ?_); intro w1 hr hb hz; have R1 := Lib.hid hr; have B1 := Lib.hid hb; have HZ1 := Lib.hid hz; clear hr hb hz))
  go_loopw [6, 10] (fun vl vi wr => ∃ (k : Nat) (v0 : Value), v0 = vl ∧ vi = .int .i64 (k : Int) ∧ k ≤ N ∧ Hid (Row wr w.heap.size 36 ((MK s k).map Value.string)) ∧ Hid (LsO intE wr w1.heap.size vl ((List.range k).map Int.ofNat)) ∧ Hid (Below w.heap.size w wr)) (fun _ vi _ => N - (intOf vi).toNat)
  case atStart => exact ⟨0, _, rfl, rfl, Nat.zero_le _, Lib.hid (by rw [MK_zero]; exact R1.out), Lib.hid (LsO.nil _ _), B1⟩
  case round =>
    obtain ⟨k, v0, rfl, rfl, hk, HR, HL, HB⟩ := hrel
    by_cases hlt : k < N
    · have hkV : (k : Int) < n := by omega
      have g1 : (0 : Int) ≤ (k : Int) := by omega
      have g2 : (k : Int) < 7 := by omega
      have SK := Lib.hid (show SI64 (k : Int) from ⟨by omega, by omega⟩)
      have HLR := Lib.hid (show ((List.range k).map Int.ofNat).length = k by simp)
      have BW1 := Lib.hid (show w1.heap.size ≤ wr.heap.size by have := HR.out.lt; have := HZ1.out; omega)
      go_wp2_with (first
        | (go_at_call 22; (with_reducible refine (HM.out k (by omega) _ HB.out).mono ?_); rintro x w3 ⟨rfl, hb⟩; have R3 := Lib.hid (HR.out.below hb HR.out.lt); have L3 := Lib.hid (HL.out.kept hb); have B3 := Lib.hid (HB.out.trans (hb.mono HB.out.size)); have S3 := Lib.hid (Nat.le_trans BW1.out hb.size); clear hb)
        | ((with_reducible refine store_cell (o := ⟨none, _, _, _, _, _⟩) rfl _ _ _ rfl w.heap.size k (.string (mkP s (k : Int))) ?_ ?_ rfl rfl 36 _ R3.out ZS.out ?_ ?_); (focus (first | (go_simp; done) | (go_simp; rfl))); (focus (first | (go_simp; done) | (go_simp; rfl))); (focus (rw [List.length_map, MK_len]; omega)); intro w4 hr hu; have R4 := Lib.hid (show Row w4 w.heap.size 36 ((MK s (k + 1)).map Value.string) by rw [← MK_set s k (by omega)]; exact hr); have L4 := Lib.hid (L3.out.upd hu (fun e => by have h1 := (World.ownsRow.lt L3.out) _ e; have h2 := HZ1.out; omega)); have B4 := Lib.hid (B3.out.trans (hu.below (Nat.le_refl _))); have S4 := Lib.hid (show w1.heap.size ≤ w4.heap.size by rw [hu.size]; exact S3.out); clear hr hu)
        | (at_builtin; (with_reducible refine append_ls intOk (o := ⟨some 21, _, _, _, _, _⟩) rfl _ _ rfl w1.heap.size _ _ ?_ (L4.out.kept ((Below.refl _ _).alloc (Nat.le_refl _) _)) (some ⟨w4.heap.size, 0, none⟩) 1 1 [(k : Int)] ?_ (ls_new intOk w4 (k : Int) _ rfl SK.out) ?_ ?_ ?_); (focus (first | (go_simp; done) | (go_simp; rfl))); (focus (first | (go_simp; done) | (go_simp; rfl))); (focus (rw [HLR.out]; omega)); (focus (have := S4.out; simp; omega)); intro v6 w6 hl hb _ _; have A4 := Lib.hid (show Below w4.heap.size w4 (w4.alloc (.cells #[.int .i64 (k : Int)] 3)) from (Below.refl _ _).alloc (Nat.le_refl _) _); have L6 := Lib.hid (show LsO intE w6 w1.heap.size v6 ((List.range (k + 1)).map Int.ofNat) by rw [← range_next]; exact hl); have R6 := Lib.hid ((R4.out.below A4.out R4.out.lt).below hb (by have := HZ1.out; omega)); have B6 := Lib.hid ((B4.out.trans (A4.out.mono B4.out.size)).trans (hb.mono (by have := HZ1.out; omega))); clear hl hb A4))
      go_roundw
      case rel => exact ⟨k + 1, _, rfl, by go_num, by omega, R6, L6, B6⟩
      case measure => simp [intOf]; omega
    · obtain rfl : k = N := by omega
      have hkV : ¬ (k : Int) < n := by omega
      have S1 := Lib.hid (show w1.heap.size ≤ wr.heap.size by have := HR.out.lt; have := HZ1.out; omega)
      have hsn := HSN.out w.heap.size w1.heap.size v0 wr hN7 S1.out HR.out HR.out.lt (fun g hg e => by have h1 := (World.ownsRow.lt HL.out) g hg; have h2 := HZ1.out; omega) HL.out
      have HC := Lib.hid hsn
      clear hsn
      go_wp2_with (go_at_call 23; (with_reducible refine HC.out.mono ?_); rintro x w7 ⟨rfl, hl, hb⟩; have L7 := Lib.hid hl; have B7 := Lib.hid (HB.out.trans (hb.mono (by have := HZ1.out; omega))); clear hl hb)
      go_ret
      rw [HO.out]
      exact ⟨_, rfl, L7.out.base (by have := HZ1.out; omega), B7.out⟩
set_option maxRecDepth 100000 in
set_option maxHeartbeats 16000000 in
theorem plorder_b (s : ByteArray) (n : Int) (w : World) (hK : Ks w) (hs : s.size ≤ 1000) (hn : SI64 n) (hn7 : ¬ n ≤ 7) :
    Calls Tryd.prog 8 #[.string s, .int .i64 n] w fun e w' => ∃ v, e = .returned v ∧ LsO intE w' w.heap.size v (ordP s n) ∧ Below w.heap.size w w' := by
  have Z7 := Lib.hid str7_zero
  have ZS := Lib.hid str_one
  have HK := Lib.hid hK
  obtain ⟨h1, h2⟩ := hn
  obtain ⟨N, hN⟩ : ∃ N, (min n 7).toNat = N := ⟨_, rfl⟩
  have hN7 : N ≤ 7 := by omega
  have hNV : 0 < N → (N : Int) = 7 := by omega
  have hN0 : N = 0 → 7 ≤ 0 := by omega
  have HO := Lib.hid (show ordP s n = ordL s N by unfold ordP; rw [hN])
  have HSN := Lib.hid (sort_nodes s N)
  have HM := Lib.hid (fun (k : Nat) (hk : k ≤ 6) (w' : World) (hb : Below w.heap.size w w') => plmark s k w' (HK.out.below hb HK.out.pos) hs hk)
  clear hK hN hs
  go_enter Tryd.func8, Tryd.ntmps8
  go_wp2_with (first
    | ((with_reducible refine alloc_row (o := ⟨some 5, _, _, _, _, _⟩) rfl _ rfl (List.replicate 7 (Value.string ⟨#[]⟩)) Z7.out ?_); intro w1 hr hb hz; have R1 := Lib.hid hr; have B1 := Lib.hid hb; have HZ1 := Lib.hid hz; clear hr hb hz))
  go_loopw [6, 10] (fun vl vi wr => ∃ (k : Nat) (v0 : Value), v0 = vl ∧ vi = .int .i64 (k : Int) ∧ k ≤ N ∧ Hid (Row wr w.heap.size 36 ((MK s k).map Value.string)) ∧ Hid (LsO intE wr w1.heap.size vl ((List.range k).map Int.ofNat)) ∧ Hid (Below w.heap.size w wr)) (fun _ vi _ => N - (intOf vi).toNat)
  case atStart => exact ⟨0, _, rfl, rfl, Nat.zero_le _, Lib.hid (by rw [MK_zero]; exact R1.out), Lib.hid (LsO.nil _ _), B1⟩
  case round =>
    obtain ⟨k, v0, rfl, rfl, hk, HR, HL, HB⟩ := hrel
    by_cases hlt : k < N
    · have hkV : (k : Int) < 7 := by omega
      have g1 : (0 : Int) ≤ (k : Int) := by omega
      have g2 : (k : Int) < 7 := by omega
      have SK := Lib.hid (show SI64 (k : Int) from ⟨by omega, by omega⟩)
      have HLR := Lib.hid (show ((List.range k).map Int.ofNat).length = k by simp)
      have BW1 := Lib.hid (show w1.heap.size ≤ wr.heap.size by have := HR.out.lt; have := HZ1.out; omega)
      go_wp2_with (first
        | (go_at_call 22; (with_reducible refine (HM.out k (by omega) _ HB.out).mono ?_); rintro x w3 ⟨rfl, hb⟩; have R3 := Lib.hid (HR.out.below hb HR.out.lt); have L3 := Lib.hid (HL.out.kept hb); have B3 := Lib.hid (HB.out.trans (hb.mono HB.out.size)); have S3 := Lib.hid (Nat.le_trans BW1.out hb.size); clear hb)
        | ((with_reducible refine store_cell (o := ⟨none, _, _, _, _, _⟩) rfl _ _ _ rfl w.heap.size k (.string (mkP s (k : Int))) ?_ ?_ rfl rfl 36 _ R3.out ZS.out ?_ ?_); (focus (first | (go_simp; done) | (go_simp; rfl))); (focus (first | (go_simp; done) | (go_simp; rfl))); (focus (rw [List.length_map, MK_len]; omega)); intro w4 hr hu; have R4 := Lib.hid (show Row w4 w.heap.size 36 ((MK s (k + 1)).map Value.string) by rw [← MK_set s k (by omega)]; exact hr); have L4 := Lib.hid (L3.out.upd hu (fun e => by have h1 := (World.ownsRow.lt L3.out) _ e; have h2 := HZ1.out; omega)); have B4 := Lib.hid (B3.out.trans (hu.below (Nat.le_refl _))); have S4 := Lib.hid (show w1.heap.size ≤ w4.heap.size by rw [hu.size]; exact S3.out); clear hr hu)
        | (at_builtin; (with_reducible refine append_ls intOk (o := ⟨some 21, _, _, _, _, _⟩) rfl _ _ rfl w1.heap.size _ _ ?_ (L4.out.kept ((Below.refl _ _).alloc (Nat.le_refl _) _)) (some ⟨w4.heap.size, 0, none⟩) 1 1 [(k : Int)] ?_ (ls_new intOk w4 (k : Int) _ rfl SK.out) ?_ ?_ ?_); (focus (first | (go_simp; done) | (go_simp; rfl))); (focus (first | (go_simp; done) | (go_simp; rfl))); (focus (rw [HLR.out]; omega)); (focus (have := S4.out; simp; omega)); intro v6 w6 hl hb _ _; have A4 := Lib.hid (show Below w4.heap.size w4 (w4.alloc (.cells #[.int .i64 (k : Int)] 3)) from (Below.refl _ _).alloc (Nat.le_refl _) _); have L6 := Lib.hid (show LsO intE w6 w1.heap.size v6 ((List.range (k + 1)).map Int.ofNat) by rw [← range_next]; exact hl); have R6 := Lib.hid ((R4.out.below A4.out R4.out.lt).below hb (by have := HZ1.out; omega)); have B6 := Lib.hid ((B4.out.trans (A4.out.mono B4.out.size)).trans (hb.mono (by have := HZ1.out; omega))); clear hl hb A4))
      go_roundw
      case rel => exact ⟨k + 1, _, rfl, by go_num, by omega, R6, L6, B6⟩
      case measure => simp [intOf]; omega
    · obtain rfl : k = N := by omega
      have hkV : ¬ (k : Int) < 7 := by omega
      have S1 := Lib.hid (show w1.heap.size ≤ wr.heap.size by have := HR.out.lt; have := HZ1.out; omega)
      have hsn := HSN.out w.heap.size w1.heap.size v0 wr hN7 S1.out HR.out HR.out.lt (fun g hg e => by have h1 := (World.ownsRow.lt HL.out) g hg; have h2 := HZ1.out; omega) HL.out
      have HC := Lib.hid hsn
      clear hsn
      go_wp2_with (go_at_call 23; (with_reducible refine HC.out.mono ?_); rintro x w7 ⟨rfl, hl, hb⟩; have L7 := Lib.hid hl; have B7 := Lib.hid (HB.out.trans (hb.mono (by have := HZ1.out; omega))); clear hl hb)
      go_ret
      rw [HO.out]
      exact ⟨_, rfl, L7.out.base (by have := HZ1.out; omega), B7.out⟩
theorem plorder (s : ByteArray) (n : Int) (w : World) (hK : Ks w) (hs : s.size ≤ 1000) (hn : SI64 n) :
    Calls Tryd.prog 8 #[.string s, .int .i64 n] w fun e w' => ∃ v, e = .returned v ∧ LsO intE w' w.heap.size v (ordP s n) ∧ Below w.heap.size w w' := by
  by_cases h : n ≤ 7
  · exact plorder_a s n w hK hs hn h
  · exact plorder_b s n w hK hs hn h
end Go.Proofs.YthbbiiegbddpdaaDoor.W
