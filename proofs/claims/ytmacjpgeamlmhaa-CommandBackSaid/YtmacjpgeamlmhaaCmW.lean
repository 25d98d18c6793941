/- LAYER 23 (command): Action of the program; awake and few of the law. -/
import Derived.Test.YtmacjpgeamlmhaaCmN
set_option linter.unusedSimpArgs false
set_option linter.unusedVariables false
namespace Go.Proofs.Ytmacjpgeamlmhaa.W
open Go Go.ChangeShapes Go.WideShapes Go.ChangeAt Go.RowKit
open Go.Proofs.Ytmacjpgeamlmhaa.P (enc dec)
open Go.Proofs.Ytmacjpgeamlmhaa.S

def actC (k : Int) : Int := if k = 1 then 1 else if k = 2 ∨ k = 3 then 2 else if k = 4 then 4 else if k = 12 ∨ k = 14 then 8 else if k = 13 then 16 else if k = 5 then 32 else if k = 10 then 64 else if k = 6 ∨ k = 7 ∨ k = 8 ∨ k = 9 ∨ k = 11 ∨ k = 15 then 128 else 0
set_option maxHeartbeats 4000000 in
theorem cmaction (k : Int) (w : World) : Calls Try.prog 22 #[.int .i64 k] w fun e w' => e = .returned (.int .i64 (actC k)) ∧ w = w' := by
  go_enter Try.func22, Try.ntmps22
  go_wp2
  all_goals
    go_ret
    exact ⟨one (vint (by unfold actC; simp_all; try omega)), rfl⟩
-- ---- awake
def cmA : CmX := ⟨⟨1, 2, 9, 3, 0, [], ⟨#[]⟩, ⟨#[]⟩, 0, 0, 0, []⟩, none, 0, 0, none, 0, 0⟩
theorem cmA_fit (w : World) : cmA.fit w := ⟨⟨by decide, by decide⟩, ⟨by decide, by decide⟩, ⟨by decide, by decide⟩, ⟨by decide, by decide⟩, ⟨by decide, by decide⟩, (Ls.nil w).cvs, by decide, by decide, ⟨by decide, by decide⟩, ⟨by decide, by decide⟩, ⟨by decide, by decide⟩, Ls.nil w⟩
theorem cmA_ok : cmA.m.ok = true := by decide +kernel
theorem cmA_code : codeCm cmA.m = [1, 2, 9, 3, 0, 0, 0, 0, 0, 0, 0, 0] := by decide +kernel
theorem cmA_built : Try.prog.built 25 [(0, .int .i64 1), (1, .int .i64 2), (2, .int .i64 9), (3, .int .i64 3)] = some (cmC 1 2 9 3 0 none 0 0 ⟨#[]⟩ ⟨#[]⟩ 0 0 0 none 0 0).toArray := by kernel_rfl
set_option maxRecDepth 100000 in
set_option maxHeartbeats 4000000 in
theorem awake23 (w : World) : Calls Try.prog 8 #[] w fun e w' => e = .returned (.bool true) ∧ Below w.heap.size w w' := by
  have HE := Lib.hid (show Calls Try.prog 9 #[.agg (cmC 1 2 9 3 0 none 0 0 ⟨#[]⟩ ⟨#[]⟩ 0 0 0 none 0 0).toArray] w fun z w' => ∃ y d, z = .returned (.tuple #[.slice y 12 d, .int .i64 0]) ∧ Rd w' y 12 d [1, 2, 9, 3, 0, 0, 0, 0, 0, 0, 0, 0] ∧ Below w.heap.size w w' by
    refine (cmencode cmA w (cmA_fit w)).mono ?_
    rintro z w' ⟨y, m, d, rfl, hr, -, hb⟩
    rw [cmA_ok, if_pos rfl, cmA_code] at hr
    have hm : 12 = m := hr.hlen
    subst hm
    exact ⟨y, d, by unfold Cm.err; rw [cmA_ok]; rfl, hr, hb⟩)
  have HA := Lib.hid (fun w => cmaction 13 w)
  go_enter Try.func8, Try.ntmps8
  go_wp2_with (first
    | ((with_reducible refine build_row (o := ⟨some 4, _, _, _, _, _⟩) rfl _ _ rfl (cmC 1 2 9 3 0 none 0 0 ⟨#[]⟩ ⟨#[]⟩ 0 0 0 none 0 0) ?_ ?_); (focus (go_simp; exact cmA_built)))
    | (go_at_call 9; (with_reducible refine HE.out.mono ?_); rintro z w1 ⟨y1, d1, rfl, hr, hb⟩; have R1 := Lib.hid hr; have B1 := Lib.hid hb; clear hr hb))
  refine (sequal _ _ 12 12 _ _ [1, 2, 9, 3, 0, 0, 0, 0, 0, 0, 0, 0] [1, 2, 9, 3, 0, 0, 0, 0, 0, 0, 0, 0] _ (R1.out.mono ((Below.refl _ _).alloc (Nat.le_refl _) _)) (rd_new w1 [1, 2, 9, 3, 0, 0, 0, 0, 0, 0, 0, 0] _ _ rfl (by decide))).mono ?_
  rw [show decide (([1, 2, 9, 3, 0, 0, 0, 0, 0, 0, 0, 0] : List UInt8) = [1, 2, 9, 3, 0, 0, 0, 0, 0, 0, 0, 0]) = true from by decide]
  rintro e w2 ⟨rfl, hq⟩
  have B2 := Lib.hid ((B1.out.alloc B1.out.size _).trans (hq.below _))
  clear hq
  go_wp2_with (first
    | (go_at_call 22; (with_reducible refine (HA.out _).mono ?_); rintro x w' ⟨rfl, rfl⟩))
  go_ret
  exact ⟨rfl, B2.out⟩
-- ---- few
def smallC (c : Cv) : Bool := decide (c.name.size ≤ 200)
def fewCm (m : Cm) : Bool := (decide (m.V.length ≤ 20) && m.V.all smallC) && (decide (m.P.length ≤ 20) && (decide (m.sp.size ≤ 200) && decide (m.nm.size ≤ 200)))
theorem smc_next (L : List Cv) (k : Nat) (x : Cv) (h : L[k]? = some x) : (L.take (k + 1)).all smallC = ((L.take k).all smallC && smallC x) := by
  obtain ⟨h1, h2⟩ := List.getElem?_eq_some_iff.1 h
  rw [List.take_succ_eq_append_getElem h1, List.all_append, h2]; simp
theorem smc_bad (L : List Cv) (k : Nat) (x : Cv) (h : L[k]? = some x) (hx : smallC x = false) : L.all smallC = false := by
  obtain ⟨h1, h2⟩ := List.getElem?_eq_some_iff.1 h
  rw [List.all_eq_false]
  exact ⟨x, by rw [← h2]; exact List.getElem_mem _, by simp [hx]⟩
set_option maxRecDepth 100000 in
set_option maxHeartbeats 8000000 in
theorem few23 (x : CmX) (w : World) (h : x.fit w) : Calls Try.prog 7 #[.agg x.cells.toArray] w fun e w' => e = .returned (.bool (fewCm x.m)) ∧ Below w.heap.size w w' := by
  obtain ⟨⟨cl, sq, kd, id, ep, V, sp, nm, nu, by1, ti, PL⟩, va, vn, vc, pa, pn, pc⟩ := x
  obtain ⟨-, -, -, -, -, hV, hs, hn, -, -, -, hP⟩ := h
  dsimp only at hV hs hn hP ⊢
  have H := Lib.hid hV.ls
  have HL := Lib.hid hV.hlen
  have HP := Lib.hid hP.hlen
  have hm := hV.hmax
  have hle := hV.hle
  have hmp := hP.hmax
  have hlp := hP.hle
  have hs2 : (sp.size : Int) ≤ 9223372036854775807 := by unfold maxLen at hs; omega
  have hn2 : (nm.size : Int) ≤ 9223372036854775807 := by unfold maxLen at hn; omega
  obtain ⟨F, hF⟩ : ∃ F, fewCm ⟨cl, sq, kd, id, ep, V, sp, nm, nu, by1, ti, PL⟩ = F := ⟨_, rfl⟩
  rw [hF]
  have HF := Lib.hid (show ((decide (vn ≤ 20) && V.all smallC) && (decide (pn ≤ 20) && (decide (sp.size ≤ 200) && decide (nm.size ≤ 200)))) = F by rw [← hF, ← hV.hlen, ← hP.hlen]; rfl)
  clear hV hP hF hs hn
  go_enter Try.func7, Try.ntmps7
  go_wp2_with ((with_reducible refine box_row (o := ⟨some 1, _, _, _, _, _⟩) rfl _ _ rfl (cmC cl sq kd id ep va vn vc sp nm nu by1 ti pa pn pc) rfl ?_); intro w1 hr hb hz; have X1 := Lib.hid hr; have B1 := Lib.hid hb; have c5 := hr.cm'.c5; clear hr hb hz)
  clear c5
  go_loopw [8] (fun i wr => ∃ k : Nat, i = .int .i64 (k : Int) ∧ k ≤ vn ∧ k ≤ 20 ∧ Hid ((V.take k).all smallC = true) ∧ Hid (Below w1.heap.size w1 wr)) (fun i _ => vn - (intOf i).toNat)
  case atStart => exact ⟨0, rfl, Nat.zero_le _, Nat.zero_le _, Lib.hid rfl, Lib.hid (Below.refl _ _)⟩
  case round =>
    obtain ⟨k, rfl, hk, hk20, A, B⟩ := hrel
    have BW := Lib.hid (B1.out.trans (B.out.mono B1.out.size))
    by_cases hlt : k < vn
    · obtain ⟨b, off, x, rfl, hx, hcell, hfx⟩ := H.out.at cvOk BW.out k hlt
      have hnx := smc_next V k x hx
      rw [A.out, Bool.true_and] at hnx
      have hbad : smallC x = false → F = false := fun e => by
        rw [← HF.out, smc_bad V k x hx e, Bool.and_false]; rfl
      have hb20 : k = 20 → F = false := fun e => by
        rw [← HF.out, decide_eq_false (by omega)]; rfl
      obtain ⟨x0, x1, x2⟩ := cvC b off k wr x hcell
      have hnm := hfx.2.2
      obtain ⟨kind, num, name⟩ := x
      dsimp only at x0 x1 x2 hnm
      have g1 : (0 : Int) ≤ (k : Int) := by omega
      have g2 : (k : Int) < (vn : Int) := by omega
      have hnm2 : (name.size : Int) ≤ 9223372036854775807 := by unfold maxLen at hnm; omega
      clear hx hcell hfx
      by_cases k20 : 20 ≤ k
      · have HF' := Lib.hid (hb20 (by omega))
        have g3 : (20 : Int) ≤ (k : Int) := by omega
        clear hnx hbad hb20
        go_wp2_with fail
        go_ret
        exact ⟨by rw [HF'.out]; first | done | rfl, BW.out.alloc BW.out.size _⟩
      · have g3 : ¬ (20 : Int) ≤ (k : Int) := by omega
        by_cases hsm : name.size ≤ 200
        · have hsm2 : ¬ (200 : Int) < (name.size : Int) := by omega
          have HN := Lib.hid (show (V.take (k + 1)).all smallC = true by rw [hnx]; unfold smallC; exact decide_eq_true hsm)
          clear hnx hbad hb20
          go_wp2_with fail
          go_roundw
          case rel => exact ⟨k + 1, vint (by omega), by omega, by omega, HN, Lib.hid (B.out.alloc B.out.size _)⟩
          case measure => simp [intOf]; omega
        · have hsm2 : (200 : Int) < (name.size : Int) := by omega
          have HF' := Lib.hid (hbad (by unfold smallC; exact decide_eq_false hsm))
          clear hnx hbad hb20
          go_wp2_with fail
          go_ret
          exact ⟨by rw [HF'.out]; first | done | rfl, BW.out.alloc BW.out.size _⟩
    · obtain rfl : vn = k := by omega
      have ht : V.take vn = V := List.take_of_length_le (by rw [HL.out]; exact Nat.le_refl _)
      have HX := Lib.hid (show F = (decide (pn ≤ 20) && (decide (sp.size ≤ 200) && decide (nm.size ≤ 200))) by rw [← HF.out]; rw [ht] at A; rw [A.out, decide_eq_true hk20]; rfl)
      have XR := Lib.hid (X1.out.below B.out X1.out.lt)
      obtain ⟨-, -, -, -, -, -, c6, c7, -, -, -, c11⟩ := XR.out.cm'
      clear ht
      by_cases p20 : pn ≤ 20
      · have q1 : (pn : Int) ≤ 20 := by omega
        by_cases s200 : sp.size ≤ 200
        · have q2 : (sp.size : Int) ≤ 200 := by omega
          by_cases n200 : nm.size ≤ 200
          · have q3 : (nm.size : Int) ≤ 200 := by omega
            have HY := Lib.hid (show F = true by rw [HX.out]; simp [p20, s200, n200])
            go_wp2_with fail
            go_ret
            exact ⟨one (vbool (by rw [HY.out])), BW.out⟩
          · have q3 : ¬ (nm.size : Int) ≤ 200 := by omega
            have HY := Lib.hid (show F = false by rw [HX.out]; simp [p20, s200, n200])
            go_wp2_with fail
            go_ret
            exact ⟨one (vbool (by rw [HY.out])), BW.out⟩
        · have q2 : ¬ (sp.size : Int) ≤ 200 := by omega
          have HY := Lib.hid (show F = false by rw [HX.out]; simp [p20, s200])
          go_wp2_with fail
          go_ret
          exact ⟨one (vbool (by rw [HY.out])), BW.out⟩
      · have q1 : ¬ (pn : Int) ≤ 20 := by omega
        have HY := Lib.hid (show F = false by rw [HX.out]; simp [p20])
        go_wp2_with fail
        go_ret
        exact ⟨one (vbool (by rw [HY.out])), BW.out⟩
end Go.Proofs.Ytmacjpgeamlmhaa.W
