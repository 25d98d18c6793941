/- slices.Insert at a list of ints of one's own. -/
import Derived.Test.YtkfhppbmnjmnoaaGreatDoorIz
import Derived.Test.YtkfhppbmnjmnoaaGreatDoorIns
import Derived.Laws.Externs
import Derived.Shelf.Spec.SlicesInsert
set_option linter.unusedSimpArgs false
set_option linter.unusedVariables false
namespace Go.Proofs.YtkfhppbmnjmnoaaGreatDoor.W
open Go Go.ChangeShapes Go.WideShapes Go.ChangeAt Go.RowKit
open Go.Proofs (step_copy_runI)

/-- all blocks but that of v are as they were -/
def Kp (v : Value) (w w' : World) : Prop := ∀ k, k < w.heap.size → v.ownBlock ≠ some k → w'.heap[k]? = w.heap[k]?
theorem Kp.of_grown {v : Value} {w w' : World} (h : w.grownBy w' v.ownBlock) : Kp v w w' := fun k hk hn => h.block k hk (fun e => hn e.symm)
theorem LsO.keep {α : Type} {E : El α} {w w' : World} {base : Nat} {v : Value} {L : List α} (h : LsO E w base v L) (hk : ∀ g, v.ownBlock = some g → w'.heap[g]? = w.heap[g]?) : LsO E w' base v L := by
  obtain ⟨h1, h2⟩ := h
  refine ⟨h1, ?_⟩
  rcases h2 with h2 | ⟨g, cap, cur, rfl, hg, hh, r⟩
  · exact .inl h2
  · exact .inr ⟨g, cap, cur, rfl, hg, (hk g rfl).trans hh, r⟩
theorem Ls.of_rowI {w : World} {g n c : Nat} {L : List Int} {R : List Value} (hr : Row w g 3 R) (hn : L.length = n) (hc : n ≤ c) (hm : c ≤ maxLen) (ht : R.take (n * 1) = flatE intE L) (hf : ∀ x ∈ L, SI64 x) : Ls intE w (some ⟨g, 0, none⟩) n c L := by
  refine ⟨hn, hc, by unfold maxLen at hm; omega, hf, (fun h => by cases h), .inr ⟨g, 0, rfl, hr.lt, fun i x hi j v hj => ?_⟩⟩
  have hj3 : j < 1 := (List.getElem?_eq_some_iff.1 hj).1
  have hil : i < L.length := (List.getElem?_eq_some_iff.1 hi).1
  have e := flatE_at intOk L i j x hi hj3
  rw [Nat.zero_add, hr.cellV]
  rw [hj, ← ht, List.getElem?_take, if_pos (show i * intE.k + j < n * 1 by show i * 1 + j < n * 1; omega)] at e
  exact e
theorem LsO.of_rowI {w : World} {base g n c : Nat} {L : List Int} {R : List Value} (hr : Row w g 3 R) (hg : base ≤ g) (hn : L.length = n) (hc : n ≤ c) (hm : c ≤ maxLen) (hl : R.length = c * 1) (ht : R.take (n * 1) = flatE intE L) : LsO intE w base (.slice (some ⟨g, 0, none⟩) n c) L := by
  subst hn
  exact ⟨by rw [flatE_len intOk], .inr ⟨g, c, R.toArray, rfl, hg, hr, hc, hm, by simpa using hl, by simpa using ht⟩⟩
set_option maxRecDepth 100000 in
set_option maxHeartbeats 16000000 in
/-- room enough: in place -/
theorem iins_in (g n c i bx : Nat) (L : List Int) (s : Int) (R : List Value) (w : World) (hr : Row w g 3 R) (hl : R.length = c * 1) (ht : R.take (n * 1) = flatE intE L) (hn : L.length = n) (hi : i < n) (hc : n + 1 ≤ c) (hm : c ≤ maxLen) (hx : Row w bx 3 [.int .i64 s]) (hbg : bx ≠ g) :
    Calls Tryz.prog 86 #[.slice (some ⟨g, 0, none⟩) n c, .int .i64 (i : Int), .slice (some ⟨bx, 0, none⟩) 1 1] w fun x w' => ∃ R', x = .returned (.slice (some ⟨g, 0, none⟩) (n + 1) c) ∧ Row w' g 3 R' ∧ R'.length = c * 1 ∧ R'.take ((n + 1) * 1) = flatE intE (L.take i ++ [s] ++ L.drop i) ∧ Gw g w w' := by
  have H := Lib.hid hr
  have HX := Lib.hid hx
  have hm' : c ≤ 9223372036854775807 := by unfold maxLen at hm; omega
  have SZ := Lib.hid int_size
  have hsA : (flatE intE (L.take i)).length = i * 1 := by rw [flatE_len intOk, List.length_take]; show min i L.length * 1 = i * 1; rw [hn, Nat.min_eq_left (by omega)]
  have hsB : (flatE intE (L.drop i)).length = (n - i) * 1 := by rw [flatE_len intOk, List.length_drop, hn]
  have hcs : (intE.cells s).length = 1 := rfl
  have hR0 : R.take ((flatE intE (L.take i)).length + (flatE intE (L.drop i)).length) = flatE intE (L.take i) ++ flatE intE (L.drop i) := by
    rw [hsA, hsB, show i * 1 + (n - i) * 1 = n * 1 by omega, ht, ← flatE_app, List.take_append_drop]
  obtain ⟨A, hA⟩ : ∃ A, flatE intE (L.take i) = A := ⟨_, rfl⟩
  obtain ⟨B, hB⟩ : ∃ B, flatE intE (L.drop i) = B := ⟨_, rfl⟩
  have hB1 : ∀ v ∈ B, v.oneCell' = true := by rw [← hB]; exact flatE_one intOk _
  have hgoal : flatE intE (L.take i ++ [s] ++ L.drop i) = A ++ [.int .i64 s] ++ B := by rw [flatE_app, flatE_app, hA, hB]; simp [flatE]
  rw [hgoal]
  rw [hA, hB] at hR0
  rw [hA] at hsA
  rw [hB] at hsB
  have hfin := ins_shift (S := [.int .i64 s]) hR0 (by rw [hsA, hsB, hcs, hl]; omega)
  rw [hsA, hsB, hcs] at hfin
  have HBC := Lib.hid (show ∀ w', Row w' g 3 R → ∀ j v, B[j]? = some v → w'.cell? ⟨g, i * 1 + j, none⟩ = some v from fun w' h j v hj => by
    have hjl : j < B.length := (List.getElem?_eq_some_iff.1 hj).1
    rw [h.cellV]
    have : (R.take (A.length + B.length))[i * 1 + j]? = some v := by
      rw [hR0, List.getElem?_append_right (by omega), hsA, Nat.add_sub_cancel_left]; exact hj
    rw [List.getElem?_take, if_pos (by omega)] at this
    exact this)
  have HSC := Lib.hid (show ∀ w', Row w' bx 3 [.int .i64 s] → ∀ j v, [.int .i64 s][j]? = some v → w'.cell? ⟨bx, 0 + j, none⟩ = some v from fun w' h j v hj => by rw [Nat.zero_add, h.cellV]; exact hj)
  obtain ⟨R1, hR1⟩ : ∃ R1, splice R (i * 1 + 1) B = R1 := ⟨_, rfl⟩
  have hl1 : R1.length = c * 1 := by rw [← hR1, splice_len _ _ _ (by rw [hsB, hl]; omega), hl]
  have HFIN := Lib.hid (show (splice R1 (i * 1) [.int .i64 s]).take ((n + 1) * 1) = A ++ [.int .i64 s] ++ B by
    rw [← hR1, show (n + 1) * 1 = i * 1 + 1 + (n - i) * 1 by omega]; exact hfin)
  have HFL := Lib.hid (show (splice R1 (i * 1) [.int .i64 s]).length = c * 1 by rw [splice_len _ _ _ (by rw [hcs, hl1]; omega), hl1])
  have HR1 := Lib.hid hR1
  have HS1 := Lib.hid (intOk.one s)
  have HB1 := Lib.hid hB1
  have HL := Lib.hid hl
  have HL1 := Lib.hid hl1
  have HSB := Lib.hid hsB
  have hov : ∀ lb cb off (W : World), Row W g 3 R → Row W bx 3 [.int .i64 s] → (callFunc 98 #[.slice (some ⟨bx, 0, none⟩) 1 1, .slice (some ⟨g, off, none⟩) lb cb]).run Tryz.prog W = .ok (.value (.bool false)) W := fun lb cb off W h1 h2 => by
    have hszz : ∀ w, (Go.sizeOf 3).run Tryz.prog w = .ok 1 w := fun w => by
      have := SZ.out
      cases hq : Tryz.prog.info? 3 with
      | none => simp [hq] at this
      | some q => simp [hq] at this; simp [Go.sizeOf, typeInfo, hq, this]
    have hgl : R.length ≠ 0 := by rw [hl]; omega
    rw [run_callFunc_extern Tryz.func98 (by kernel_rfl) (by kernel_rfl) (by kernel_rfl) (e := Extern.SlicesOverlaps.overlaps #[31, 31] #[4]) (by kernel_rfl),
      Lib.run_overlaps_apart W 31 4 3 Tryz.underlying31 1 hszz ⟨bx, 0, none⟩ ⟨g, off, none⟩ 1 1 lb cb hbg 3 3 1 R.length (by unfold World.shape?; rw [show W.heap[bx]? = _ from h2]; rfl) (by unfold World.shape?; rw [show W.heap[g]? = _ from h1]; rfl) hgl (h2.frozen 0) (h2.frozen 1)]
    rfl
  have hovw := fun lb cb off => hov lb cb off w hr hx
  have hcp1 : ∀ ty dc sc, (Builtin.copy_ #[31, 31] ty #[.slice (some ⟨g, i + 1, none⟩) (n - i) dc, .slice (some ⟨g, i, none⟩) (n + 1 - i) sc]).run Tryz.prog w.drew = .ok (goInt (Nat.min (n + 1 - i) (n - i))) (w.drew.setRow g R1.toArray) := fun ty dc sc => by
    have hmin : Nat.min (n + 1 - i) (n - i) = n - i := by show min _ _ = _; omega
    rw [← hR1, show i * 1 + 1 = (i + 1) * 1 by omega]
    have q := run_copy_min w.drew 31 ty 3 1 g ((i + 1) * 1) (n - i) dc 3 R (some ⟨g, i * 1, none⟩) (n + 1 - i) sc B Tryz.underlying31 SZ.out (H.out.drewN 1) (by rw [hmin]; exact hsB) ⟨g, i * 1, rfl, HBC.out w.drew (H.out.drewN 1)⟩ (by rw [hsB, hl]; omega) hB1
    simpa only [Nat.mul_one] using q
  have hb2 : ¬ (c = i + 1) := by omega
  have hb4 : ¬ (c = i) := by omega
  have hb1 : (0 : Int) ≤ (i : Int) + 1 := by omega
  have mixed : Tryz.prog.follows .mixedOrders = true := by kernel_rfl
  have hb3 : (i : Int) ≤ (n : Int) + 1 := by omega
  have hb5 : (i : Int) + 1 ≤ (n : Int) + 1 := by omega
  have htn : ((i : Int) + 1).toNat = i + 1 := by omega
  have HBG := Lib.hid hbg
  have hw1 : IntKind.i64.wrap ((i : Int) + 1) = (i : Int) + 1 := by rw [IntKind.wrap_i64]; unfold maxLen at hm; omega
  have hz2 : ¬ ((i : Int) = (n : Int)) := by omega
  clear hr hx hl ht hn hm hsA hsB hR0 hA hB hB1 hgoal hfin hR1 hl1 hov hbg hcs
  go_enter Tryz.func86, Tryz.ntmps86
  go_wp2_with (simp only [hovw])
  go_region_law_o (refine step_copy_runI rfl _ _ 31 31 rfl _ _ (by simp [Act.eval, Act.put]) (by simp [Act.eval, Act.put]) (hcp1 _ _ _) ?_)
  clear hovw hcp1
  have H2 := Lib.hid (show Row (w.drew.setRow g R1.toArray) g 3 R1 from (H.out.drewN 1).setRow R1)
  have HX2 := Lib.hid (show Row (w.drew.setRow g R1.toArray) bx 3 [.int .i64 s] from (HX.out.drewN 1).upd (Upd.setRow _ _ _) HBG.out)
  have B2 := Lib.hid (show Gw g w (w.drew.setRow g R1.toArray) from (Gw.drewN w 1).trans (Gw.upd (Upd.setRow _ _ _)))
  generalize w.drew.setRow g R1.toArray = w2 at *
  go_wp2_with ((with_reducible refine copy_min (o := ⟨some 82, _, _, _, _, _⟩) rfl _ _ _ rfl 3 1 g (i * 1) (n + 1 - i) (c - i) 3 R1 (some ⟨bx, 0, none⟩) 1 1 [.int .i64 s] ?_ ?_ Tryz.underlying31 SZ.out H2.out ?_ ?_ ?_ HS1.out ?_); (focus go_simp); (focus go_simp); (focus (show 1 = min _ _ * 1; omega)); (focus (exact ⟨bx, 0, rfl, HSC.out w2 HX2.out⟩)); (focus (rw [HL1.out]; show i * 1 + 1 ≤ c * 1; omega)); intro w3 hr3 hu3; have H3 := Lib.hid hr3; have B3 := Lib.hid (B2.out.trans (Gw.upd hu3)); clear hr3 hu3)
  go_ret
  exact ⟨_, rfl, H3.out, HFL.out, HFIN.out, B3.out⟩
set_option maxRecDepth 100000 in
set_option maxHeartbeats 16000000 in
/-- no room: a new row -/
theorem iins_grow (g n i bx : Nat) (L : List Int) (s : Int) (R : List Value) (w : World) (hr : Row w g 3 R) (ht : R.take (n * 1) = flatE intE L) (hn : L.length = n) (hi : i < n) (hm : n ≤ 1000) (hx : Row w bx 3 [.int .i64 s]) :
    Calls Tryz.prog 86 #[.slice (some ⟨g, 0, none⟩) n n, .int .i64 (i : Int), .slice (some ⟨bx, 0, none⟩) 1 1] w fun x w' => ∃ G R', x = .returned (.slice (some ⟨w.heap.size, 0, none⟩) (n + 1) G) ∧ Row w' w.heap.size 3 R' ∧ R'.length = G * 1 ∧ n + 1 ≤ G ∧ G ≤ maxLen ∧ R'.take ((n + 1) * 1) = flatE intE (L.take i ++ [s] ++ L.drop i) ∧ Below w.heap.size w w' := by
  have H := Lib.hid hr
  have HX := Lib.hid hx
  have SZ := Lib.hid int_size
  have hsA : (flatE intE (L.take i)).length = i * 1 := by rw [flatE_len intOk, List.length_take]; show min i L.length * 1 = i * 1; rw [hn, Nat.min_eq_left (by omega)]
  have hsB : (flatE intE (L.drop i)).length = (n - i) * 1 := by rw [flatE_len intOk, List.length_drop, hn]
  have hR0 : R.take ((flatE intE (L.take i)).length + (flatE intE (L.drop i)).length) = flatE intE (L.take i) ++ flatE intE (L.drop i) := by
    rw [hsA, hsB, show i * 1 + (n - i) * 1 = n * 1 by omega, ht, ← flatE_app, List.take_append_drop]
  have hLi : (L.take i).length = i := by rw [List.length_take, hn]; omega
  obtain ⟨LA, hLA⟩ : ∃ LA, L.take i = LA := ⟨_, rfl⟩
  obtain ⟨B, hB⟩ : ∃ B, flatE intE (L.drop i) = B := ⟨_, rfl⟩
  have hB1 : ∀ v ∈ B, v.oneCell' = true := by rw [← hB]; exact flatE_one intOk _
  have hgoal : flatE intE (L.take i ++ [s] ++ L.drop i) = flatE intE LA ++ [.int .i64 s] ++ B := by rw [flatE_app, flatE_app, hLA, hB]; simp [flatE]
  rw [hgoal]
  rw [hLA, hB] at hR0
  rw [hLA] at hsA hLi
  rw [hB] at hsB
  have hcell := fun (w' : World) (h : Row w' g 3 R) => (show ∀ j v, (flatE intE LA ++ B)[j]? = some v → w'.cell? ⟨g, j, none⟩ = some v from fun j v hj => by
    rw [h.cellV]
    rw [← hR0, List.getElem?_take] at hj
    split at hj
    · exact hj
    · cases hj)
  have HAC := Lib.hid (show ∀ w', Row w' g 3 R → ∀ j v, (flatE intE LA)[j]? = some v → w'.cell? ⟨g, j, none⟩ = some v from fun w' h j v hj => by
    refine hcell w' h j v ?_
    rw [List.getElem?_append_left (List.getElem?_eq_some_iff.1 hj).1]; exact hj)
  have HBC := Lib.hid (show ∀ w', Row w' g 3 R → ∀ j v, B[j]? = some v → w'.cell? ⟨g, i * 1 + j, none⟩ = some v from fun w' h j v hj => by
    refine hcell w' h (i * 1 + j) v ?_
    rw [List.getElem?_append_right (by omega), hsA, Nat.add_sub_cancel_left]; exact hj)
  have HSC := Lib.hid (show ∀ w', Row w' bx 3 [.int .i64 s] → ∀ j v, [.int .i64 s][j]? = some v → w'.cell? ⟨bx, 0 + j, none⟩ = some v from fun w' h j v hj => by rw [Nat.zero_add, h.cellV]; exact hj)
  have HFIN := Lib.hid (show ∀ (R0 : List Value) (G : Nat), R0.take (i * 1) = flatE intE LA → R0.length = G * 1 → n + 1 ≤ G → (splice (splice R0 (i * 1) [.int .i64 s]) (i * 1 + 1) B).take ((n + 1) * 1) = flatE intE LA ++ [.int .i64 s] ++ B ∧ (splice (splice R0 (i * 1) [.int .i64 s]) (i * 1 + 1) B).length = G * 1 ∧ (splice R0 (i * 1) [.int .i64 s]).length = G * 1 from fun R0 G h1 h2 h3 => by
    have hcs : (intE.cells s).length = 1 := rfl
    have h4 : (splice R0 (i * 1) [.int .i64 s]).length = G * 1 := by rw [splice_len _ _ _ (by rw [hcs, h2]; omega), h2]
    have h5 := ins_fresh (R := R0) (A := flatE intE LA) (S := [.int .i64 s]) (B := B) (by rw [hsA]; exact h1) (by rw [hsA, hsB, hcs, h2]; omega)
    rw [hsA, hsB, hcs, show i * 1 + 1 + (n - i) * 1 = (n + 1) * 1 by omega] at h5
    exact ⟨h5, by rw [splice_len _ _ _ (by rw [hsB, h4]; omega), h4], h4⟩)
  have HS1 := Lib.hid (intOk.one s)
  have HB1 := Lib.hid hB1
  have HSB := Lib.hid hsB
  have HLI := Lib.hid hLi
  have hw1 : IntKind.i64.wrap ((i : Int) + 1) = (i : Int) + 1 := by rw [IntKind.wrap_i64]; omega
  have hz2 : ¬ ((i : Int) = (n : Int)) := by omega
  have hkk : IntKind.i64.wrap ((n : Int) + 1 - (i : Int)) = (n : Int) + 1 - (i : Int) := by rw [IntKind.wrap_i64]; omega
  clear hr hx ht hn hsA hsB hLi hR0 hLA hB hB1 hgoal hcell
  go_enter Tryz.func86, Tryz.ntmps86
  go_wp2_with (first
    | (at_builtin; (with_reducible refine append_zeros intOk (o := ⟨some 40, _, _, _, _, _⟩) rfl _ _ 3 .i64 Tryz.underlying3 rfl g n i (n + 1 - i) ((n : Int) + 1 - (i : Int)) LA ?_ ?_ ?_ ?_ HLI.out ?_ ?_ (HAC.out w H.out) ?_); (focus go_simp); (focus go_simp); (focus omega); (focus omega); (focus omega); (focus omega); intro w1 G R0 hr1 ht1 hl1 hG hGm hb1 hz1; rw [show i + (n + 1 - i) = n + 1 by omega]; have hGi : ¬ (G = i) := (by omega); have hGi1 : ¬ (G = i + 1) := (by omega); have hG63 : G ≤ 9223372036854775807 := (by unfold maxLen at hGm; omega); have E1 := Lib.hid hr1; have F1 := Lib.hid (HFIN.out R0 G ht1 hl1 (by omega)); have L1 := Lib.hid hl1; have HG := Lib.hid (show n + 1 ≤ G by omega); have HGM := Lib.hid hGm; have B1 := Lib.hid hb1; have N1 := Lib.hid H.out.lt; clear hr1 ht1 hl1 hGm hb1 hz1)
    | ((with_reducible refine copy_min (o := ⟨some 45, _, _, _, _, _⟩) rfl _ _ _ rfl 3 1 w.heap.size (i * 1) (n + 1 - i) (G - i) 3 R0 (some ⟨bx, 0, none⟩) 1 1 [.int .i64 s] ?_ ?_ Tryz.underlying31 SZ.out E1.out ?_ ?_ ?_ HS1.out ?_); (focus go_simp); (focus go_simp); (focus (show 1 = min _ _ * 1; omega)); (focus (exact ⟨bx, 0, rfl, HSC.out w1 (HX.out.below B1.out HX.out.lt)⟩)); (focus (rw [L1.out]; show i * 1 + 1 ≤ G * 1; omega)); intro w2 hr2 hu2; have E2 := Lib.hid hr2; have H2 := Lib.hid ((H.out.below B1.out H.out.lt).upd hu2 (by have := N1.out; omega)); have B2 := Lib.hid (B1.out.trans (hu2.below (Nat.le_refl _))); clear hr2 hu2))
  obtain ⟨R1, hR1⟩ : ∃ R1, splice R0 (i * 1) [.int .i64 s] = R1 := ⟨_, rfl⟩
  have f1 := F1.out
  rw [hR1] at f1
  obtain ⟨f2, f3, f4⟩ := f1
  have e2 := E2.out
  rw [hR1] at e2
  obtain ⟨R2, hR2⟩ : ∃ R2, splice R1 (i * 1 + 1) B = R2 := ⟨_, rfl⟩
  rw [hR2] at f2 f3
  have E3 := Lib.hid e2
  have F2 := Lib.hid f2
  have F3 := Lib.hid f3
  have hcp1 : ∀ ty dc sc, (Builtin.copy_ #[31, 31] ty #[.slice (some ⟨w.heap.size, i + 1, none⟩) (n - i) dc, .slice (some ⟨g, i, none⟩) (n - i) sc]).run Tryz.prog w2.drew = .ok (goInt (Nat.min (n - i) (n - i))) (w2.drew.setRow w.heap.size R2.toArray) := fun ty dc sc => by
    have hmin : Nat.min (n - i) (n - i) = n - i := by show min _ _ = _; omega
    rw [← hR2, show i * 1 + 1 = (i + 1) * 1 by omega]
    have q := run_copy_min w2.drew 31 ty 3 1 w.heap.size ((i + 1) * 1) (n - i) dc 3 R1 (some ⟨g, i * 1, none⟩) (n - i) sc B Tryz.underlying31 SZ.out (E3.out.drewN 1) (by rw [hmin]; exact HSB.out) ⟨g, i * 1, rfl, HBC.out w2.drew (H2.out.drewN 1)⟩ (by rw [HSB.out, f4]; have := HG.out; omega) HB1.out
    simpa only [Nat.mul_one] using q
  clear hR1 hR2 e2 f2 f3 f4 E2 F1 E1 H
  have hb1 : (0 : Int) ≤ (i : Int) + 1 := by omega
  have hb4 : ¬ (n = i) := by omega
  have hb3 : (i : Int) ≤ (n : Int) := by omega
  have htn : ((i : Int) + 1).toNat = i + 1 := by omega
  have mixed : Tryz.prog.follows .mixedOrders = true := by kernel_rfl
  go_wp2_with fail
  go_region_law_o (refine step_copy_runI rfl _ _ 31 31 rfl _ _ (by simp [Act.eval, Act.put]) (by simp [Act.eval, Act.put]) (hcp1 _ _ _) ?_)
  have E4 := Lib.hid (show Row (w2.drew.setRow w.heap.size R2.toArray) w.heap.size 3 R2 from (E3.out.drewN 1).setRow R2)
  have B4 := Lib.hid (show Below w.heap.size w (w2.drew.setRow w.heap.size R2.toArray) from (below_drewN B2.out 1).trans ((Upd.setRow _ _ _).below (Nat.le_refl _)))
  clear hcp1
  generalize w2.drew.setRow w.heap.size R2.toArray = w4 at *
  go_wp2_with fail
  go_ret
  exact ⟨_, _, rfl, E4.out, F3.out, HG.out, HGM.out, F2.out, B4.out⟩
/-- at the end, or anywhere: what Insert makes of a list of one's own -/
theorem iinsert2 (v : Value) (base n i bx : Nat) (L : List Int) (s : Int) (w : World) (hv : LsO intE w base v L) (hfit : ∀ x ∈ L, SI64 x) (hs : SI64 s) (hn : L.length = n) (hi : i ≤ n) (hm : n ≤ 1000) (hx : Row w bx 3 [.int .i64 s]) (hbx : v.ownBlock ≠ some bx) (hbw : base ≤ w.heap.size) :
    Calls Tryz.prog 86 #[v, .int .i64 (i : Int), .slice (some ⟨bx, 0, none⟩) 1 1] w fun x w' => ∃ v', x = .returned v' ∧ LsO intE w' base v' (L.take i ++ [s] ++ L.drop i) ∧ Below base w w' ∧ Kp v w w' ∧ (∀ g, v'.ownBlock = some g → v.ownBlock = some g ∨ w.heap.size ≤ g) := by
  by_cases hin : i = n
  · subst hin
    have HV := Lib.hid hv
    obtain ⟨a, c, hva, hls, -⟩ := hv.ls intOk hfit
    subst hva
    have HX := Lib.hid (show Ls intE w (some ⟨bx, 0, none⟩) 1 1 [s] from Ls.of_rowI hx rfl (Nat.le_refl _) (by unfold maxLen; omega) (by simp [flatE]) (by simpa using hs))
    have HN := Lib.hid hn
    rw [show L.take i ++ [s] ++ L.drop i = L ++ [s] by rw [← hn, List.take_length, List.drop_length, List.append_nil]]
    have hcm : c ≤ 9223372036854775807 := hls.hmax
    have hcl := hls.hle
    rw [hn] at hcl
    have HV2 := Lib.hid (show LsO intE w base (.slice a i c) L by rw [← hn]; exact HV.out)
    rw [hn]
    clear hv hls hfit hs hn hx hbx HV
    go_enter Tryz.func86, Tryz.ntmps86
    go_wp2_with ((with_reducible refine append_ls intOk (o := ⟨some 25, _, _, _, _, _⟩) rfl _ _ rfl base (.slice a i c) L ?_ HV2.out (some ⟨bx, 0, none⟩) 1 1 [s] ?_ HX.out ?_ hbw ?_); (focus (first | (go_simp; done) | (go_simp; rfl))); (focus (first | (go_simp; done) | (go_simp; rfl))); (focus (rw [HN.out]; omega)); intro v2 w2 hN hb2 hg2 hv2; have N2 := Lib.hid hN; have B2 := Lib.hid hb2; have K2 := Lib.hid (show Kp (.slice a i c) w w2 from Kp.of_grown hg2); have W2 := Lib.hid hv2; clear hN hb2 hg2 hv2)
    all_goals
      go_ret
      exact ⟨_, rfl, N2.out, B2.out, fun k hk hn => K2.out k hk (fun e => hn (by cases a <;> exact e)), fun g hg => W2.out.elim (fun e => .inl (by have hq : v2.ownBlock = some g := hg; rw [e] at hq; cases a <;> exact hq)) (fun e => .inr (by have hq : v2.ownBlock = some g := hg; rw [e] at hq; injection hq with hq; omega))⟩
  · obtain ⟨h1, h2⟩ := hv
    rcases h2 with ⟨rfl, h0⟩ | ⟨g, c, cur, rfl, hg, hh, hle, hmx, hsz, ht⟩
    · omega
    · rw [hn] at hle ht ⊢
      have hgx : bx ≠ g := fun e => hbx (by rw [e]; rfl)
      have hr : Row w g 3 cur.toList := by unfold Row; exact hh
      have hl : cur.toList.length = c * 1 := by simpa using hsz
      have hln : (L.take i ++ [s] ++ L.drop i).length = n + 1 := by simp [hn]; omega
      by_cases hroom : n + 1 ≤ c
      · refine (iins_in g n c i bx L s cur.toList w hr hl ht hn (by omega) hroom hmx hx hgx).mono ?_
        rintro x w' ⟨R', rfl, hr', hl', ht', hgw⟩
        exact ⟨_, rfl, LsO.of_rowI hr' hg hln hroom hmx hl' ht', hgw.below hg hbw, fun k hk hn => hgw.block k hk (fun e => hn (by rw [e]; rfl)), fun q hq => .inl hq⟩
      · obtain rfl : c = n := by omega
        refine (iins_grow g c i bx L s cur.toList w hr ht hn (by omega) hm hx).mono ?_
        rintro x w' ⟨G, R', rfl, hr', hl', hG, hGm, ht', hb'⟩
        exact ⟨_, rfl, LsO.of_rowI hr' hbw hln hG hGm hl' ht', hb'.mono hbw, fun k hk _ => hb'.block k hk, fun q hq => .inr (by injection hq with hq; exact Nat.le_of_eq hq)⟩
theorem iinsert (v : Value) (base n i bx : Nat) (L : List Int) (s : Int) (w : World) (hv : LsO intE w base v L) (hfit : ∀ x ∈ L, SI64 x) (hs : SI64 s) (hn : L.length = n) (hi : i ≤ n) (hm : n ≤ 1000) (hx : Row w bx 3 [.int .i64 s]) (hbx : v.ownBlock ≠ some bx) (hbw : base ≤ w.heap.size) :
    Calls Tryz.prog 86 #[v, .int .i64 (i : Int), .slice (some ⟨bx, 0, none⟩) 1 1] w fun x w' => ∃ v', x = .returned v' ∧ LsO intE w' base v' (L.take i ++ [s] ++ L.drop i) ∧ Below base w w' ∧ Kp v w w' := by
  refine (iinsert2 v base n i bx L s w hv hfit hs hn hi hm hx hbx hbw).mono ?_
  rintro x w' ⟨v', e, h1, h2, h3, -⟩
  exact ⟨v', e, h1, h2, h3⟩
end Go.Proofs.YtkfhppbmnjmnoaaGreatDoor.W
