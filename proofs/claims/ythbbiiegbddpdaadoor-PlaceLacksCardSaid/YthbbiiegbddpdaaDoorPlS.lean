/- LAYER 29 (place): slices.SortFunc of at most 7 nodes by the closure of Order. -/
import Derived.Test.YthbbiiegbddpdaaDoorPlA
import Derived.BigGuard
import Derived.BigCall
import Derived.CellFam
import Derived.Deep.Draws
import Derived.Deep.QuietTactic
import Derived.BigQuiet
set_option linter.unusedSimpArgs false
set_option linter.unusedVariables false
namespace Go.Proofs.YthbbiiegbddpdaaDoor.W
open Go Go.ChangeShapes Go.WideShapes Go.ChangeAt Go.RowKit
open Go.Proofs.YthbbiiegbddpdaaDoor.S

structure InsR (lt : Int → Int → Bool) (S : List Int) (j i : Nat) : Prop where
  rest : ∀ a b, a < b → b ≤ i → a ≠ j → b ≠ j → lt (S.getD b 0) (S.getD a 0) = false
  here : ∀ b, j < b → b ≤ i → lt (S.getD b 0) (S.getD j 0) = false
def SrtR (lt : Int → Int → Bool) (S : List Int) (i : Nat) : Prop := ∀ a b, a < b → b < i → lt (S.getD b 0) (S.getD a 0) = false
/-- a strict order: asymmetric, and its complement goes on -/
structure OrdR (lt : Int → Int → Bool) : Prop where
  asym : ∀ {x y}, lt x y = true → lt y x = false
  le : ∀ {x y z}, lt y x = false → lt z y = false → lt z x = false
theorem SrtR.ins {lt : Int → Int → Bool} {S : List Int} {i : Nat} (h : SrtR lt S i) : InsR lt S i i := ⟨fun a b h1 h2 _ h4 => h a b h1 (by omega), fun b h1 h2 => by omega⟩
theorem InsR.stop {lt : Int → Int → Bool} (O : OrdR lt) {S : List Int} {i j : Nat} (h : InsR lt S j i) (hs : j = 0 ∨ lt (S.getD j 0) (S.getD (j - 1) 0) = false) : SrtR lt S (i + 1) := by
  intro a b hab hb
  by_cases ha : a = j
  · subst ha; exact h.here b hab (by omega)
  · by_cases hbj : b = j
    · subst hbj
      have hl : lt (S.getD b 0) (S.getD (b - 1) 0) = false := hs.resolve_left (by omega)
      by_cases e : a = b - 1
      · subst e; exact hl
      · exact O.le (h.rest a (b - 1) (by omega) (by omega) ha (by omega)) hl
    · exact h.rest a b hab (by omega) ha hbj
theorem InsR.go {lt : Int → Int → Bool} (O : OrdR lt) {S : List Int} {i j : Nat} (h : InsR lt S j i) (hj : j < S.length) (h0 : 0 < j) (hji : j ≤ i) (hl : lt (S.getD j 0) (S.getD (j - 1) 0) = true) : InsR lt (swpI S j) (j - 1) i := by
  refine ⟨fun a b hab hb ha hbj => ?_, fun b h1 h2 => ?_⟩
  · rw [swp_at S j a hj h0, swp_at S j b hj h0, if_neg ha, if_neg hbj]
    by_cases e1 : a = j
    · rw [if_pos e1, if_neg (by omega)]
      exact h.rest (j - 1) b (by omega) hb (by omega) (by omega)
    · rw [if_neg e1]
      by_cases e2 : b = j
      · rw [if_pos e2]; exact h.rest a (j - 1) (by omega) (by omega) e1 (by omega)
      · rw [if_neg e2]; exact h.rest a b hab hb e1 e2
  · rw [swp_at S j (j - 1) hj h0, swp_at S j b hj h0, if_neg (show ¬ j - 1 = j by omega), if_pos (rfl : j - 1 = j - 1), if_neg (show ¬ b = j - 1 by omega)]
    by_cases e : b = j
    · rw [if_pos e]; exact O.asym hl
    · rw [if_neg e]; exact h.here b (by omega) h2
theorem SrtR.pairwise {lt : Int → Int → Bool} {S : List Int} (h : SrtR lt S S.length) : S.Pairwise (fun x y => lt y x = false) := by
  refine List.pairwise_iff_getElem.2 fun i j hi hj hij => ?_
  have := h i j hij hj
  simpa [hi, hj] using this
theorem ltP_ord (s : ByteArray) : OrdR (ltP s) := ⟨ltP_asym, ltP_le⟩

set_option maxRecDepth 100000 in
set_option maxHeartbeats 8000000 in
theorem isortF (lt : Int → Int → Bool) (O : OrdR lt) (gm g cap a n : Nat) (M : List Value) (L : List Int) (R : List Value) (w : World) (ha : a = 0) (hn : L.length = n) (hn12 : n ≤ 7) (hr : Row w g 3 (CI L R)) (hrm : Row w gm 36 M) (hne : gm ≠ g) (b : Int) (hin : ∀ x ∈ L, 0 ≤ x ∧ x < b)
    (hcm : ∀ x y : Int, (0 ≤ x ∧ x < b) → (0 ≤ y ∧ y < b) → ∀ w, Row w gm 36 M → Calls Tryd.prog 24 #[.int .i64 x, .int .i64 y, .pointer (some ⟨gm, 0, none⟩)] w fun e w' => ∃ c : Int, decide (c < 0) = lt x y ∧ e = .returned (.int .i64 c) ∧ Below w.heap.size w w') :
    Calls Tryd.prog 56 #[.slice (some ⟨g, 0, none⟩) n cap, .int .i64 a, .int .i64 n, .func (.func 24) #[] #[.pointer (some ⟨gm, 0, none⟩)]] w fun e w' =>
      e = .returned (.tuple #[]) ∧ Gw g w w' ∧ ∃ S, S.Perm L ∧ S.Pairwise (fun x y => lt y x = false) ∧ Row w' g 3 (CI S R) := by
  have HA := Lib.hid ha
  have ha5 : a ≤ 5 := by omega
  have HN := Lib.hid hn
  have HR := Lib.hid hr
  have HRM0 := Lib.hid hrm
  have HNE := Lib.hid hne
  have HIN := Lib.hid hin
  have HCM := Lib.hid hcm
  have HO := Lib.hid O
  clear ha hn hr hrm hne hin hcm O
  go_enter Tryd.func56, Tryd.ntmps56
  go_wp2_with fail
  go_loopw [8] (fun vi wr => ∃ (i : Nat) (S : List Int), vi = .int .i64 i ∧ a < i ∧ i ≤ n + a + 1 ∧ Hid (S.Perm L) ∧ Hid (SrtR lt S i) ∧ Hid (Row wr g 3 (CI S R)) ∧ Hid (Gw g w wr)) (fun vi _ => n + a + 1 - (intOf vi).toNat)
  case atStart => exact ⟨a + 1, L, by go_num, by omega, by omega, Lib.hid (List.Perm.refl _), Lib.hid (by intro x y hxy hy; have := HA.out; omega), HR, Lib.hid (Gw.refl _ _)⟩
  case round =>
    obtain ⟨i, S, rfl, hai, hib, HP, HS, HRW, HG⟩ := hrel
    by_cases hlt : i < n
    · go_wp2_with fail
      go_loopw [9] (fun vj wq => ∃ (j : Nat) (D : List Int) (wr2 : World), wr2 = wq ∧ vj = .int .i64 j ∧ a ≤ j ∧ j ≤ i ∧ Hid (D.Perm L) ∧ Hid (InsR lt D j i) ∧ Hid (Row wr2 g 3 (CI D R)) ∧ Hid (Gw g w wr2)) (fun vj _ => (intOf vj).toNat)
      case atStart => exact ⟨i, S, _, rfl, rfl, by omega, Nat.le_refl _, HP, Lib.hid HS.out.ins, HRW, HG⟩
      case round =>
        obtain ⟨j, D, wr2, rfl, rfl, haj, hji, HPD, HI, HRD, HGD⟩ := hrel
        obtain ⟨G, hG⟩ : ∃ G : Nat → Int, ∀ t, G t = D.getD t 0 := ⟨fun t => D.getD t 0, fun _ => rfl⟩
        have hdl : D.length = n := by rw [HPD.out.length_eq, HN.out]
        have CW := Lib.hid (show ∀ t, t < n → wr2.cell? ⟨g, t, none⟩ = some (.int .i64 (G t)) from fun t ht => by rw [hG, HRD.out.cellV, CI_at D R t (by rw [hdl]; exact ht)])
        have GM := Lib.hid (show ∀ t, t < n → 0 ≤ G t ∧ G t < b from fun t ht => by
          rw [hG]
          refine HIN.out _ (HPD.out.mem_iff.1 ?_)
          rw [List.getD_eq_getElem?_getD, List.getElem?_eq_getElem (by rw [hdl]; exact ht)]
          exact List.getElem_mem _)
        have HRM := Lib.hid (HRM0.out.gw HGD.out HNE.out)
        have HG2 : Hid (∀ t, G t = D.getD t 0) := Lib.hid hG
        have HDL := Lib.hid hdl
        clear hG hdl
        go_wp2_with fail
        by_cases hja : a < j
        · have hjn : (j : Int) < (n : Int) := by omega
          have hjn2 : j < n := by omega
          have hjp : j - 1 < n := by omega
          have h0j : (0 : Int) ≤ (j : Int) := by omega
          have haj2 : (a : Int) < (j : Int) := by omega
          have hwj : IntKind.i64.wrap ((j : Int) - 1) = ((j - 1 : Nat) : Int) := by rw [IntKind.wrap_i64]; omega
          have h0j1 : (0 : Int) ≤ ((j - 1 : Nat) : Int) := by omega
          have hj1n : ((j - 1 : Nat) : Int) < (n : Int) := by omega
          refine region_h (fun v => Below wr2.heap.size wr2 v) (by kernel_rfl) (by kernel_rfl) (Below.refl _ _).drew ?_
          obtain ⟨d0, hd0⟩ : ∃ wd, wr2.drew = wd := ⟨_, rfl⟩
          have J0 : Hid (Below wr2.heap.size wr2 d0) := Lib.hid (by rw [← hd0]; exact (Below.refl _ _).drew)
          rw [hd0]
          clear hd0
          (refine h_read 0 rfl (by kernel_rfl) (by kernel_rfl) (h_free rfl) ?_ ?_ ?_; rotate_left; (focus (intro v hv; go_simp; rfl)); go_simp)
          (refine h_read 1 rfl (by kernel_rfl) (by kernel_rfl) (h_free rfl) ?_ ?_ ?_; rotate_left; (focus (intro v hv; go_simp; rfl)); go_simp)
          (refine h_read 2 rfl (by kernel_rfl) (by kernel_rfl) (h_free rfl) ?_ ?_ ?_; rotate_left; (focus (intro v hv; go_simp; rfl)); go_simp)
          (refine h_read 3 rfl (by kernel_rfl) (by kernel_rfl) (h_free rfl) ?_ ?_ ?_; rotate_left; (focus (intro v hv; go_simp; rfl)); go_simp)
          (refine h_read 4 rfl (by kernel_rfl) (by kernel_rfl) ?_ ?_ ?_ ?_; (focus (go_simp; done)); rotate_left; (focus (intro v hv; go_simp; rfl)); go_simp)
          (refine h_read 5 rfl (by kernel_rfl) (by kernel_rfl) ?_ ?_ ?_ ?_; (focus (go_simp; done)); rotate_left; (focus (intro v hv; go_simp; rfl)); go_simp)
          (refine h_read 6 rfl (by kernel_rfl) (by kernel_rfl) ?_ ?_ ?_ ?_; (focus (go_simp; done)); rotate_left; (focus (intro v hv; go_simp; rfl)); go_simp)
          (refine h_read 7 rfl (by kernel_rfl) (by kernel_rfl) ?_ ?_ ?_ ?_; (focus (go_simp; done)); rotate_left; (focus (intro v hv; go_simp; rfl)); go_simp)
          (refine h_read 8 rfl (by kernel_rfl) (by kernel_rfl) ?_ ?_ ?_ ?_; (focus (go_simp; done)); rotate_left; (focus (intro v hv; have x0 := (hv.cell (p := ⟨g, j, none⟩) HRD.out.lt).trans (CW.out j hjn2); have x1 := (hv.cell (p := ⟨g, j - 1, none⟩) HRD.out.lt).trans (CW.out (j - 1) hjp); go_simp; rfl)); go_simp)
          (refine h_read 9 rfl (by kernel_rfl) (by kernel_rfl) ?_ ?_ ?_ ?_; (focus (go_simp; done)); rotate_left; (focus (intro v hv; go_simp; rfl)); go_simp)
          (refine h_read 10 rfl (by kernel_rfl) (by kernel_rfl) ?_ ?_ ?_ ?_; (focus (go_simp; done)); rotate_left; (focus (intro v hv; go_simp; rfl)); go_simp)
          (refine h_read 11 rfl (by kernel_rfl) (by kernel_rfl) ?_ ?_ ?_ ?_; (focus (go_simp; done)); rotate_left; (focus (intro v hv; go_simp; rfl)); go_simp)
          (refine h_read 12 rfl (by kernel_rfl) (by kernel_rfl) ?_ ?_ ?_ ?_; (focus (go_simp; done)); rotate_left; (focus (intro v hv; go_simp; rfl)); go_simp)
          (refine h_read 13 rfl (by kernel_rfl) (by kernel_rfl) ?_ ?_ ?_ ?_; (focus (go_simp; done)); rotate_left; (focus (intro v hv; have x0 := (hv.cell (p := ⟨g, j, none⟩) HRD.out.lt).trans (CW.out j hjn2); have x1 := (hv.cell (p := ⟨g, j - 1, none⟩) HRD.out.lt).trans (CW.out (j - 1) hjp); go_simp; rfl)); go_simp)
          (refine h_call 14 rfl (by kernel_rfl) ?_ 24 ?_ ?_ ?_; (focus (go_simp; done)); rotate_left; (focus (go_simp; rfl)))
          refine (HCM.out (G j) (G (j - 1)) (GM.out j hjn2) (GM.out (j - 1) hjp) d0 (HRM.out.below J0.out HRM.out.lt)).mono ?_
          rintro z d1 ⟨c, hcl, rfl, hb⟩
          have HCL := Lib.hid hcl
          have J1 := Lib.hid (J0.out.trans (hb.mono J0.out.size))
          clear hcl hb
          refine ⟨_, rfl, J1.out, ?_⟩
          go_simp
          (refine h_read 15 rfl (by kernel_rfl) (by kernel_rfl) ?_ ?_ ?_ ?_; (focus (go_simp; done)); rotate_left; (focus (intro v hv; go_simp; rfl)); go_simp)
          (refine h_read 16 rfl (by kernel_rfl) (by kernel_rfl) (h_free rfl) ?_ ?_ ?_; rotate_left; (focus (intro v hv; go_simp; rfl)); go_simp)
          refine h_done (by kernel_rfl) ?_
          have HR1 := Lib.hid (HRD.out.below J1.out HRD.out.lt)
          have HG1 := Lib.hid (HGD.out.trans (Gw.of_below J1.out))
          by_cases hl : c < 0
          · have hl2 := HCL.out
            rw [decide_eq_true hl] at hl2
            have HL2 := Lib.hid hl2.symm
            clear hl2
            go_wp2_with fail
            have hcw : ∀ t, t < n → d1.cell? ⟨g, t, none⟩ = some (.int .i64 (G t)) := fun t ht => by rw [HG2.out, HR1.out.cellV, CI_at D R t (by rw [HDL.out]; exact ht)]
            have hfw : ∀ t, t < n → d1.frozen? ⟨g, t, none⟩ = false := fun t ht => HR1.out.frozen t
            go_region
            all_goals go_wp2
            go_roundw
            case rel =>
              have hl3 : lt (D.getD j 0) (D.getD (j - 1) 0) = true := by rw [← HG2.out, ← HG2.out]; exact HL2.out
              have hj0 : 0 < j := by omega
              have hjD : j < D.length := by rw [HDL.out]; exact hjn2
              refine ⟨j - 1, swpI D j, _, rfl, rfl, by omega, by omega, Lib.hid ((swp_perm D j hjD hj0).trans HPD.out), Lib.hid (HI.out.go HO.out hjD hj0 hji hl3), Lib.hid ?_, Lib.hid ?_⟩
              · rw [HG2.out, HG2.out]
                exact CI_swp (w := w) (HR1.out.drewN 1) hjD hj0
              · exact ((HG1.out.trans (Gw.drewN _ _)).trans (Gw.upd (Upd.setCell _ _ _ _))).trans (Gw.upd (Upd.setCell _ _ _ _))
            case measure => simp [intOf]; omega
          · have hl2 := HCL.out
            rw [decide_eq_false hl] at hl2
            have HL2 := Lib.hid hl2.symm
            clear hl2
            go_wp2_with fail
            go_roundw
            case rel =>
              refine ⟨i + 1, D, by go_num, by omega, by omega, HPD, Lib.hid (HI.out.stop HO.out (.inr ?_)), HR1, HG1⟩
              rw [← HG2.out, ← HG2.out]; exact HL2.out
            case measure => simp [intOf]; omega
        · have haj2 : ¬ (a : Int) < (j : Int) := by omega
          refine region_h (fun v => Below wr2.heap.size wr2 v) (by kernel_rfl) (by kernel_rfl) (Below.refl _ _).drew ?_
          obtain ⟨d0, hd0⟩ : ∃ wd, wr2.drew = wd := ⟨_, rfl⟩
          have J0 : Hid (Below wr2.heap.size wr2 d0) := Lib.hid (by rw [← hd0]; exact (Below.refl _ _).drew)
          rw [hd0]
          clear hd0
          (refine h_read 0 rfl (by kernel_rfl) (by kernel_rfl) (h_free rfl) ?_ ?_ ?_; rotate_left; (focus (intro v hv; go_simp; rfl)); go_simp)
          (refine h_read 1 rfl (by kernel_rfl) (by kernel_rfl) (h_free rfl) ?_ ?_ ?_; rotate_left; (focus (intro v hv; go_simp; rfl)); go_simp)
          (refine h_read 2 rfl (by kernel_rfl) (by kernel_rfl) (h_free rfl) ?_ ?_ ?_; rotate_left; (focus (intro v hv; go_simp; rfl)); go_simp)
          (refine h_read 3 rfl (by kernel_rfl) (by kernel_rfl) (h_free rfl) ?_ ?_ ?_; rotate_left; (focus (intro v hv; go_simp; rfl)); go_simp)
          (refine h_skip 4 rfl (by kernel_rfl) (by kernel_rfl) ?_ ?_; (focus (go_simp; first | done | (intro h; cases h) | simp)); go_simp)
          (refine h_skip 5 rfl (by kernel_rfl) (by kernel_rfl) ?_ ?_; (focus (go_simp; first | done | (intro h; cases h) | simp)); go_simp)
          (refine h_skip 6 rfl (by kernel_rfl) (by kernel_rfl) ?_ ?_; (focus (go_simp; first | done | (intro h; cases h) | simp)); go_simp)
          (refine h_skip 7 rfl (by kernel_rfl) (by kernel_rfl) ?_ ?_; (focus (go_simp; first | done | (intro h; cases h) | simp)); go_simp)
          (refine h_skip 8 rfl (by kernel_rfl) (by kernel_rfl) ?_ ?_; (focus (go_simp; first | done | (intro h; cases h) | simp)); go_simp)
          (refine h_skip 9 rfl (by kernel_rfl) (by kernel_rfl) ?_ ?_; (focus (go_simp; first | done | (intro h; cases h) | simp)); go_simp)
          (refine h_skip 10 rfl (by kernel_rfl) (by kernel_rfl) ?_ ?_; (focus (go_simp; first | done | (intro h; cases h) | simp)); go_simp)
          (refine h_skip 11 rfl (by kernel_rfl) (by kernel_rfl) ?_ ?_; (focus (go_simp; first | done | (intro h; cases h) | simp)); go_simp)
          (refine h_skip 12 rfl (by kernel_rfl) (by kernel_rfl) ?_ ?_; (focus (go_simp; first | done | (intro h; cases h) | simp)); go_simp)
          (refine h_skip 13 rfl (by kernel_rfl) (by kernel_rfl) ?_ ?_; (focus (go_simp; first | done | (intro h; cases h) | simp)); go_simp)
          (refine h_skip 14 rfl (by kernel_rfl) (by kernel_rfl) ?_ ?_; (focus (go_simp; first | done | (intro h; cases h) | simp)); go_simp)
          (refine h_skip 15 rfl (by kernel_rfl) (by kernel_rfl) ?_ ?_; (focus (go_simp; first | done | (intro h; cases h) | simp)); go_simp)
          (refine h_read 16 rfl (by kernel_rfl) (by kernel_rfl) (h_free rfl) ?_ ?_ ?_; rotate_left; (focus (intro v hv; go_simp; rfl)); go_simp)
          refine h_done (by kernel_rfl) ?_
          have HR1 := Lib.hid (HRD.out.below J0.out HRD.out.lt)
          have HG1 := Lib.hid (HGD.out.trans (Gw.of_below J0.out))
          go_wp2_with fail
          go_roundw
          case rel => exact ⟨i + 1, D, by go_num, by omega, by omega, HPD, Lib.hid (HI.out.stop HO.out (.inl (by have := HA.out; omega))), HR1, HG1⟩
          case measure => simp [intOf]; omega
    · go_wp2_with fail
      go_end0
      refine ⟨rfl, HG.out, S, HP.out, SrtR.pairwise ?_, HRW.out⟩
      intro x y hxy hy
      have h1 := HP.out.length_eq
      have h2 := HN.out
      exact HS.out x y hxy (by omega)
set_option maxRecDepth 100000 in
set_option maxHeartbeats 4000000 in
theorem ipdqF (lt : Int → Int → Bool) (O : OrdR lt) (gm : Nat) (M : List Value) (g cap n : Nat) (lim : Int) (L : List Int) (R : List Value) (w : World) (hn : L.length = n) (hn12 : n ≤ 7) (hr : Row w g 3 (CI L R)) (hrm : Row w gm 36 M) (hne : gm ≠ g) (b : Int) (hin : ∀ x ∈ L, 0 ≤ x ∧ x < b)
    (hcm : ∀ x y : Int, (0 ≤ x ∧ x < b) → (0 ≤ y ∧ y < b) → ∀ w, Row w gm 36 M → Calls Tryd.prog 24 #[.int .i64 x, .int .i64 y, .pointer (some ⟨gm, 0, none⟩)] w fun e w' => ∃ c : Int, decide (c < 0) = lt x y ∧ e = .returned (.int .i64 c) ∧ Below w.heap.size w w') :
    Calls Tryd.prog 36 #[.slice (some ⟨g, 0, none⟩) n cap, .int .i64 0, .int .i64 n, .int .i64 lim, .func (.func 24) #[] #[.pointer (some ⟨gm, 0, none⟩)]] w fun e w' =>
      e = .returned (.tuple #[]) ∧ Gw g w w' ∧ ∃ S, S.Perm L ∧ S.Pairwise (fun x y => lt y x = false) ∧ Row w' g 3 (CI S R) := by
  have HI : Hid (∀ w, Row w g 3 (CI L R) → Row w gm 36 M → Calls Tryd.prog 56 #[.slice (some ⟨g, 0, none⟩) n cap, .int .i64 0, .int .i64 n, .func (.func 24) #[] #[.pointer (some ⟨gm, 0, none⟩)]] w fun e w' => e = .returned (.tuple #[]) ∧ Gw g w w' ∧ ∃ S, S.Perm L ∧ S.Pairwise (fun x y => lt y x = false) ∧ Row w' g 3 (CI S R)) := Lib.hid (fun w h1 h2 => isortF lt O gm g cap 0 n M L R w rfl hn hn12 h1 h2 hne b hin hcm)
  have HR := Lib.hid hr
  have hni : (n : Int) ≤ 12 := by omega
  have HRM := Lib.hid hrm
  clear hr hn hrm hne hin hcm O
  go_enter Tryd.func36, Tryd.ntmps36
  go_wp2
  go_loopw [1, 2] (fun a b wr => a = .int .i64 0 ∧ b = .int .i64 n ∧ w = wr) (fun _ _ _ => 0)
  case atStart => exact ⟨rfl, rfl, rfl⟩
  case round =>
    obtain ⟨rfl, rfl, rfl⟩ := hrel
    go_wp2_with (go_at_call 56; refine (HI.out _ HR.out HRM.out).mono ?_; rintro e w1 ⟨rfl, hg1, hs1⟩; have G1 := Lib.hid hg1; have S1 := Lib.hid hs1; clear hg1 hs1)
    refine bodyPost_ret (results_none rfl _ _ _) rfl ?_
    exact ⟨rfl, G1.out, S1.out⟩
set_option maxRecDepth 100000 in
set_option maxHeartbeats 4000000 in
theorem isortsF (lt : Int → Int → Bool) (O : OrdR lt) (gm : Nat) (M : List Value) (g cap n : Nat) (L : List Int) (R : List Value) (w : World) (hn : L.length = n) (hn7 : n ≤ 7) (hr : Row w g 3 (CI L R)) (hrm : Row w gm 36 M) (hne : gm ≠ g) (b : Int) (hin : ∀ x ∈ L, 0 ≤ x ∧ x < b)
    (hcm : ∀ x y : Int, (0 ≤ x ∧ x < b) → (0 ≤ y ∧ y < b) → ∀ w, Row w gm 36 M → Calls Tryd.prog 24 #[.int .i64 x, .int .i64 y, .pointer (some ⟨gm, 0, none⟩)] w fun e w' => ∃ c : Int, decide (c < 0) = lt x y ∧ e = .returned (.int .i64 c) ∧ Below w.heap.size w w') :
    Calls Tryd.prog 23 #[.slice (some ⟨g, 0, none⟩) n cap, .func (.func 24) #[] #[.pointer (some ⟨gm, 0, none⟩)]] w fun e w' =>
      e = .returned (.tuple #[]) ∧ Gw g w w' ∧ ∃ S, S.Perm L ∧ S.Pairwise (fun x y => lt y x = false) ∧ Row w' g 3 (CI S R) := by
  have HI := Lib.hid (fun lim w h1 h2 => ipdqF lt O gm M g cap n lim L R w hn (by omega) h1 h2 hne b hin hcm)
  have HR := Lib.hid hr
  have hwn : IntKind.u64.wrap (n : Int) = (n : Int) := by rw [IntKind.wrap_u64]; omega
  have HRM := Lib.hid hrm
  clear hr hn hrm hne hin hcm O
  go_enter Tryd.func23, Tryd.ntmps23
  go_wp2_with (first
    | (go_at_call 33; refine (blen n hn7 _).mono ?_; rintro e w1 ⟨⟨r, rfl⟩, rfl⟩)
    | (go_at_call 36; refine (HI.out _ _ HR.out HRM.out).mono ?_; rintro e w1 ⟨rfl, hg1, hs1⟩; have G1 := Lib.hid hg1; have S1 := Lib.hid hs1; clear hg1 hs1))
  go_end0
  exact ⟨rfl, G1.out, S1.out⟩
set_option maxRecDepth 100000 in
set_option maxHeartbeats 4000000 in
theorem isortsF0 (fv : Value) (w : World) : Calls Tryd.prog 23 #[.slice none 0 0, fv] w fun e w' => e = .returned (.tuple #[]) ∧ w = w' := by
  have h1 : ∀ w, Calls Tryd.prog 56 #[.slice none 0 0, .int .i64 0, .int .i64 0, fv] w fun e w' => e = .returned (.tuple #[]) ∧ w = w' := by
    intro w
    go_enter Tryd.func56, Tryd.ntmps56
    go_wp2_with fail
    go_loopw [8] (fun vi wr => vi = .int .i64 1 ∧ w = wr) (fun _ _ => 0)
    case atStart => exact ⟨rfl, rfl⟩
    case round =>
      obtain ⟨rfl, rfl⟩ := hrel
      go_wp2_with fail
      go_end0
      exact ⟨rfl, rfl⟩
  have H1 := Lib.hid h1
  have h2 : ∀ lim w, Calls Tryd.prog 36 #[.slice none 0 0, .int .i64 0, .int .i64 0, .int .i64 lim, fv] w fun e w' => e = .returned (.tuple #[]) ∧ w = w' := by
    intro lim w
    clear h1
    go_enter Tryd.func36, Tryd.ntmps36
    go_wp2_with fail
    go_loopw [1, 2] (fun a b wr => a = .int .i64 0 ∧ b = .int .i64 0 ∧ w = wr) (fun _ _ _ => 0)
    case atStart => exact ⟨rfl, rfl, rfl⟩
    case round =>
      obtain ⟨rfl, rfl, rfl⟩ := hrel
      go_wp2_with (go_at_call 56; refine (H1.out _).mono ?_; rintro e w1 ⟨rfl, rfl⟩)
      refine bodyPost_ret (results_none rfl _ _ _) rfl ?_
      exact ⟨rfl, rfl⟩
  have H2 := Lib.hid h2
  clear h1 h2
  go_enter Tryd.func23, Tryd.ntmps23
  go_wp2_with (first
    | (go_at_call 33; refine (blen 0 (by omega) _).mono ?_; rintro e w1 ⟨⟨r, rfl⟩, rfl⟩)
    | (go_at_call 36; refine (H2.out _ _).mono ?_; rintro e w1 ⟨rfl, rfl⟩))
  go_end0
  exact ⟨rfl, rfl⟩
end Go.Proofs.YthbbiiegbddpdaaDoor.W
