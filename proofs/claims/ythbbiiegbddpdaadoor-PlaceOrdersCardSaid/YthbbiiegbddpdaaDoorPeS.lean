/- LAYER 12 (peers): the library's sort of at most 12 ints that a call owns. -/
import Derived.Test.YthbbiiegbddpdaaDoorPeP
import Derived.BigGuard
import Derived.BigCall
import Derived.CellFam
import Derived.Deep.Draws
import Derived.Deep.QuietTactic
import Derived.BigQuiet
set_option linter.unusedSimpArgs false
set_option linter.unusedVariables false
namespace Go.Proofs.YthbbiiegbddpdaaDoor.W
open Go Go.ChangeShapes Go.WideShapes Go.ChangeAt Go.RowKit

/-! ### plain: a swap; what the inner loop keeps -/
def swpI (S : List Int) (j : Nat) : List Int := (S.set j (S.getD (j - 1) 0)).set (j - 1) (S.getD j 0)
theorem swp_len (S : List Int) (j : Nat) : (swpI S j).length = S.length := by simp [swpI]
theorem swp_perm (S : List Int) (j : Nat) (h : j < S.length) (h0 : 0 < j) : (swpI S j).Perm S := by
  unfold swpI
  have e1 : S.getD (j - 1) 0 = S[j - 1]'(by omega) := by simp [show j - 1 < S.length by omega]
  have e2 : S.getD j 0 = S[j] := by simp [h]
  rw [e1, e2]
  exact List.set_set_perm h (by omega)
theorem swp_at (S : List Int) (j t : Nat) (h : j < S.length) (h0 : 0 < j) : (swpI S j).getD t 0 = if t = j then S.getD (j - 1) 0 else if t = j - 1 then S.getD j 0 else S.getD t 0 := by
  unfold swpI
  rw [List.getD_eq_getElem?_getD, List.getElem?_set, List.getElem?_set, List.length_set]
  by_cases h1 : t = j
  · subst h1
    rw [if_neg (by omega), if_pos rfl, if_pos h, if_pos rfl]; rfl
  · by_cases h2 : t = j - 1
    · subst h2
      rw [if_pos rfl, if_pos (by omega), if_neg h1, if_pos rfl]; rfl
    · rw [if_neg (fun e => h2 e.symm), if_neg (fun e => h1 e.symm), if_neg h1, if_neg h2, List.getD_eq_getElem?_getD]
structure Ins (S : List Int) (j i : Nat) : Prop where
  rest : ∀ a b, a < b → b ≤ i → a ≠ j → b ≠ j → S.getD a 0 ≤ S.getD b 0
  here : ∀ b, j < b → b ≤ i → S.getD j 0 ≤ S.getD b 0
def Srt (S : List Int) (i : Nat) : Prop := ∀ a b, a < b → b < i → S.getD a 0 ≤ S.getD b 0
theorem Srt.ins {S : List Int} {i : Nat} (h : Srt S i) : Ins S i i := ⟨fun a b h1 h2 _ h4 => h a b h1 (by omega), fun b h1 h2 => by omega⟩
theorem Ins.stop {S : List Int} {i j : Nat} (h : Ins S j i) (hs : j = 0 ∨ ¬ S.getD j 0 < S.getD (j - 1) 0) : Srt S (i + 1) := by
  intro a b hab hb
  by_cases ha : a = j
  · subst ha; exact h.here b hab (by omega)
  · by_cases hbj : b = j
    · subst hbj
      have hl : ¬ S.getD b 0 < S.getD (b - 1) 0 := hs.resolve_left (by omega)
      by_cases e : a = b - 1
      · subst e; omega
      · have := h.rest a (b - 1) (by omega) (by omega) ha (by omega)
        omega
    · exact h.rest a b hab (by omega) ha hbj
theorem Ins.go {S : List Int} {i j : Nat} (h : Ins S j i) (hj : j < S.length) (h0 : 0 < j) (hji : j ≤ i) (hl : S.getD j 0 < S.getD (j - 1) 0) : Ins (swpI S j) (j - 1) i := by
  refine ⟨fun a b hab hb ha hbj => ?_, fun b h1 h2 => ?_⟩
  · rw [swp_at S j a hj h0, swp_at S j b hj h0, if_neg ha, if_neg hbj]
    by_cases e1 : a = j
    · rw [if_pos e1, if_neg (by omega)]
      exact h.rest (j - 1) b (by omega) hb (by omega) (by omega)
    · rw [if_neg e1]
      by_cases e2 : b = j
      · rw [if_pos e2]; exact h.rest a (j - 1) (by omega) (by omega) e1 (by omega)
      · rw [if_neg e2]; exact h.rest a b hab hb e1 e2
  · rw [swp_at S j (j - 1) hj h0, swp_at S j b hj h0, if_neg (by omega), if_pos rfl, if_neg (show ¬ b = j - 1 by omega)]
    by_cases e : b = j
    · rw [if_pos e]; omega
    · rw [if_neg e]; exact h.here b (by omega) h2
theorem Srt.pairwise {S : List Int} (h : Srt S S.length) : S.Pairwise (· ≤ ·) := by
  refine List.pairwise_iff_getElem.2 fun i j hi hj hij => ?_
  have := h i j hij hj
  simpa [hi, hj] using this

/-- the block's cells: the list, and what lies behind it -/
def CI (S : List Int) (R : List Value) : List Value := S.map (Value.int .i64) ++ R
theorem CI_at (S : List Int) (R : List Value) (t : Nat) (h : t < S.length) : (CI S R)[t]? = some (.int .i64 (S.getD t 0)) := by
  unfold CI; rw [List.getElem?_append_left (by simpa using h)]; simp [h]
theorem CI_set (S : List Int) (R : List Value) (t : Nat) (x : Int) (h : t < S.length) : (CI S R).set t (.int .i64 x) = CI (S.set t x) R := by
  unfold CI; rw [List.set_append_left _ _ (by simpa using h), List.map_set]
theorem CI_swp {w w' : World} {g : Nat} {S : List Int} {R : List Value} {j : Nat} (h : Row w' g 3 (CI S R)) (hj : j < S.length) (h0 : 0 < j) :
    Row ((w'.setCell ⟨g, j, none⟩ (.int .i64 (S.getD (j - 1) 0))).setCell ⟨g, j - 1, none⟩ (.int .i64 (S.getD j 0))) g 3 (CI (swpI S j) R) := by
  have h1 := (h.setV j (.int .i64 (S.getD (j - 1) 0))).setV (j - 1) (.int .i64 (S.getD j 0))
  rw [CI_set S R j _ hj, CI_set _ R (j - 1) _ (by rw [List.length_set]; omega)] at h1
  exact h1

def ltI (x y : Int) : Bool := decide (x < y)
set_option maxHeartbeats 400000 in
theorem cnan (x : Int) (w : World) : Calls Tryd.prog 38 #[.int .i64 x] w fun e w' => e = .returned (.bool false) ∧ w = w' := by
  go_enter Tryd.func38, Tryd.ntmps38
  go_wp2
  go_ret
  exact ⟨one (vbool (by simp)), rfl⟩
set_option maxHeartbeats 400000 in
theorem cless (x y : Int) (w : World) : Calls Tryd.prog 48 #[.int .i64 x, .int .i64 y] w fun e w' => e = .returned (.bool (ltI x y)) ∧ w = w' := by
  go_enter Tryd.func48, Tryd.ntmps48
  go_wp2_with (first | (go_at_call 38; refine (cnan x _).mono ?_; rintro e w' ⟨rfl, rfl⟩) | (go_at_call 38; refine (cnan y _).mono ?_; rintro e w' ⟨rfl, rfl⟩))
  go_ret
  exact ⟨rfl, rfl⟩

set_option maxRecDepth 100000 in
set_option maxHeartbeats 4000000 in
theorem isort (g cap a n : Nat) (L : List Int) (R : List Value) (w : World) (ha : a = 0) (hn : L.length = n) (hn12 : n ≤ 12) (hr : Row w g 3 (CI L R)) :
    Calls Tryd.prog 42 #[.slice (some ⟨g, 0, none⟩) n cap, .int .i64 a, .int .i64 n] w fun e w' =>
      e = .returned (.tuple #[]) ∧ Gw g w w' ∧ ∃ S, S.Perm L ∧ S.Pairwise (· ≤ ·) ∧ Row w' g 3 (CI S R) := by
  have HA := Lib.hid ha
  have ha5 : a ≤ 5 := by omega
  have HN := Lib.hid hn
  have HR := Lib.hid hr
  clear ha hn hr
  go_enter Tryd.func42, Tryd.ntmps42
  go_wp2
  go_loopw [6] (fun vi wr => ∃ (i : Nat) (S : List Int), vi = .int .i64 i ∧ a < i ∧ i ≤ n + a + 1 ∧ Hid (S.Perm L) ∧ Hid (Srt S i) ∧ Hid (Row wr g 3 (CI S R)) ∧ Hid (Gw g w wr)) (fun vi _ => n + a + 1 - (intOf vi).toNat)
  case atStart => exact ⟨a + 1, L, by go_num, by omega, by omega, Lib.hid (List.Perm.refl _), Lib.hid (by intro x y hxy hy; have := HA.out; omega), HR, Lib.hid (Gw.refl _ _)⟩
  case round =>
    obtain ⟨i, S, rfl, hai, hib, HP, HS, HRW, HG⟩ := hrel
    by_cases hlt : i < n
    · go_wp2
      go_loopw [7] (fun vj wq => ∃ (j : Nat) (D : List Int) (wr2 : World), wr2 = wq ∧ vj = .int .i64 j ∧ a ≤ j ∧ j ≤ i ∧ Hid (D.Perm L) ∧ Hid (Ins D j i) ∧ Hid (Row wr2 g 3 (CI D R)) ∧ Hid (Gw g w wr2)) (fun vj _ => (intOf vj).toNat)
      case atStart => exact ⟨i, S, _, rfl, rfl, by omega, Nat.le_refl _, HP, Lib.hid HS.out.ins, HRW, HG⟩
      case round =>
        obtain ⟨j, D, wr2, rfl, rfl, haj, hji, HPD, HI, HRD, HGD⟩ := hrel
        obtain ⟨G, hG⟩ : ∃ G : Nat → Int, ∀ t, G t = D.getD t 0 := ⟨fun t => D.getD t 0, fun _ => rfl⟩
        have hdl : D.length = n := by rw [HPD.out.length_eq, HN.out]
        have hcw : ∀ t, t < n → wr2.cell? ⟨g, t, none⟩ = some (.int .i64 (G t)) := fun t ht => by rw [hG, HRD.out.cellV, CI_at D R t (by rw [hdl]; exact ht)]
        have hfw : ∀ t, t < n → wr2.frozen? ⟨g, t, none⟩ = false := fun t ht => HRD.out.frozen t
        have HG2 : Hid (∀ t, G t = D.getD t 0) := Lib.hid hG
        have HDL := Lib.hid hdl
        clear hG hdl
        go_wp2
        by_cases hja : a < j
        · have hjn : (j : Int) < (n : Int) := by omega
          have hjn2 : j < n := by omega
          have hjp : j - 1 < n := by omega
          have hwj : IntKind.i64.wrap ((j : Int) - 1) = ((j - 1 : Nat) : Int) := by rw [IntKind.wrap_i64]; omega
          go_quiet (first | (go_at_call 48; exact Calls.quiet_of_same ((cless _ _ _).mono fun e w' h => ⟨h.1, h.2.symm⟩)))
          go_wp2
          · have hl : ltI (G j) (G (j - 1)) = true := by assumption
            go_region
            all_goals go_wp2
            go_roundw
            case rel =>
              have hl2 : D.getD j 0 < D.getD (j - 1) 0 := by rw [← HG2.out, ← HG2.out]; simpa [ltI] using hl
              have hj0 : 0 < j := by omega
              have hjD : j < D.length := by rw [HDL.out]; exact hjn2
              refine ⟨j - 1, swpI D j, _, rfl, rfl, by omega, by omega, Lib.hid ((swp_perm D j hjD hj0).trans HPD.out), Lib.hid (HI.out.go hjD hj0 hji hl2), Lib.hid ?_, Lib.hid ?_⟩
              · rw [HG2.out, HG2.out]
                exact CI_swp (w := w) (HRD.out.drewN (nq + 1)) hjD hj0
              · exact ((HGD.out.trans (Gw.drewN _ _)).trans (Gw.upd (Upd.setCell _ _ _ _))).trans (Gw.upd (Upd.setCell _ _ _ _))
            case measure => simp [intOf]; omega
          · have hl : ltI (G j) (G (j - 1)) = false := by assumption
            go_roundw
            case rel =>
              refine ⟨i + 1, D, by go_num, by omega, by omega, HPD, Lib.hid (HI.out.stop (.inr ?_)), Lib.hid (HRD.out.drewN nq), Lib.hid (HGD.out.trans (Gw.drewN _ _))⟩
              rw [← HG2.out, ← HG2.out]; simpa [ltI] using hl
            case measure => simp [intOf]; omega
        · go_quiet (first | (go_at_call 48; exact Calls.quiet_of_same ((cless _ _ _).mono fun e w' h => ⟨h.1, h.2.symm⟩)))
          go_wp2
          go_roundw
          case rel => exact ⟨i + 1, D, by go_num, by omega, by omega, HPD, Lib.hid (HI.out.stop (.inl (by have := HA.out; omega))), Lib.hid (HRD.out.drewN nq), Lib.hid (HGD.out.trans (Gw.drewN _ _))⟩
          case measure => simp [intOf]; omega
    · go_wp2
      go_end0
      refine ⟨rfl, HG.out, S, HP.out, Srt.pairwise ?_, HRW.out⟩
      intro x y hxy hy
      have h1 := HP.out.length_eq
      have h2 := HN.out
      exact HS.out x y hxy (by omega)

set_option maxRecDepth 100000 in
set_option maxHeartbeats 4000000 in
theorem blen (n : Nat) (hn : n ≤ 7) (w : World) : Calls Tryd.prog 33 #[.int .u64 n] w fun e w' => (∃ r, e = .returned (.int .i64 r)) ∧ w = w' := by
  have h64 : ∀ w, Calls Tryd.prog 52 #[.int .u64 n] w fun e w' => (∃ r, e = .returned (.int .i64 r)) ∧ w = w' := by
    intro w
    have : n = 0 ∨ n = 1 ∨ n = 2 ∨ n = 3 ∨ n = 4 ∨ n = 5 ∨ n = 6 ∨ n = 7 := by omega
    rcases this with rfl | rfl | rfl | rfl | rfl | rfl | rfl | rfl
    all_goals
      go_enter Tryd.func52, Tryd.ntmps52
      go_wp2
      go_ret
      exact ⟨⟨_, rfl⟩, rfl⟩
  have H64 := Lib.hid h64
  clear h64
  go_enter Tryd.func33, Tryd.ntmps33
  go_wp2_with (go_at_call 52; refine (H64.out _).mono ?_; rintro e w' ⟨⟨r, rfl⟩, rfl⟩)
  go_ret
  exact ⟨⟨_, rfl⟩, rfl⟩
set_option maxRecDepth 100000 in
set_option maxHeartbeats 4000000 in
theorem ipdq (g cap n : Nat) (lim : Int) (L : List Int) (R : List Value) (w : World) (hn : L.length = n) (hn12 : n ≤ 12) (hr : Row w g 3 (CI L R)) :
    Calls Tryd.prog 32 #[.slice (some ⟨g, 0, none⟩) n cap, .int .i64 0, .int .i64 n, .int .i64 lim] w fun e w' =>
      e = .returned (.tuple #[]) ∧ Gw g w w' ∧ ∃ S, S.Perm L ∧ S.Pairwise (· ≤ ·) ∧ Row w' g 3 (CI S R) := by
  have HI : Hid (∀ w, Row w g 3 (CI L R) → Calls Tryd.prog 42 #[.slice (some ⟨g, 0, none⟩) n cap, .int .i64 0, .int .i64 n] w fun e w' => e = .returned (.tuple #[]) ∧ Gw g w w' ∧ ∃ S, S.Perm L ∧ S.Pairwise (· ≤ ·) ∧ Row w' g 3 (CI S R)) := Lib.hid (fun w => isort g cap 0 n L R w rfl hn hn12)
  have HR := Lib.hid hr
  have hni : (n : Int) ≤ 12 := by omega
  clear hr hn
  go_enter Tryd.func32, Tryd.ntmps32
  go_wp2
  go_loopw [1, 2] (fun a b wr => a = .int .i64 0 ∧ b = .int .i64 n ∧ w = wr) (fun _ _ _ => 0)
  case atStart => exact ⟨rfl, rfl, rfl⟩
  case round =>
    obtain ⟨rfl, rfl, rfl⟩ := hrel
    go_wp2_with (go_at_call 42; refine (HI.out _ HR.out).mono ?_; rintro e w1 ⟨rfl, hg1, hs1⟩; have G1 := Lib.hid hg1; have S1 := Lib.hid hs1; clear hg1 hs1)
    refine bodyPost_ret (results_none rfl _ _ _) rfl ?_
    exact ⟨rfl, G1.out, S1.out⟩
set_option maxRecDepth 100000 in
set_option maxHeartbeats 4000000 in
theorem isorts (g cap n : Nat) (L : List Int) (R : List Value) (w : World) (hn : L.length = n) (hn7 : n ≤ 7) (hr : Row w g 3 (CI L R)) :
    Calls Tryd.prog 17 #[.slice (some ⟨g, 0, none⟩) n cap] w fun e w' =>
      e = .returned (.tuple #[]) ∧ Gw g w w' ∧ ∃ S, S.Perm L ∧ S.Pairwise (· ≤ ·) ∧ Row w' g 3 (CI S R) := by
  have HI := Lib.hid (fun lim w => ipdq g cap n lim L R w hn (by omega))
  have HR := Lib.hid hr
  have hwn : IntKind.u64.wrap (n : Int) = (n : Int) := by rw [IntKind.wrap_u64]; omega
  clear hr hn
  go_enter Tryd.func17, Tryd.ntmps17
  go_wp2_with (first
    | (go_at_call 33; refine (blen n hn7 _).mono ?_; rintro e w1 ⟨⟨r, rfl⟩, rfl⟩)
    | (go_at_call 32; refine (HI.out _ _ HR.out).mono ?_; rintro e w1 ⟨rfl, hg1, hs1⟩; have G1 := Lib.hid hg1; have S1 := Lib.hid hs1; clear hg1 hs1))
  go_end0
  exact ⟨rfl, G1.out, S1.out⟩
end Go.Proofs.YthbbiiegbddpdaaDoor.W
