/- LAYER 23 (command): in, text, Check, Encode of the reference. LAYER 23 (command): Encode of the reference. -/
import Derived.Test.YtmacjpgeamlmhaaCmN
import Derived.Test.YtmacjpgeamlmhaaMfUb
import Derived.Test.YtmacjpgeamlmhaaCavW4
import Derived.Deep.CutBlock
set_option linter.unusedSimpArgs false
set_option linter.unusedVariables false
namespace Go.Proofs.Ytmacjpgeamlmhaa.W
open Go Go.ChangeShapes Go.WideShapes Go.ChangeAt Go.RowKit
open Go.Proofs.Ytmacjpgeamlmhaa.P (enc dec)
open Go.Proofs.Ytmacjpgeamlmhaa.S

theorem zwithin1 (n lo hi : Int) (w : World) : Calls Try.prog 79 #[.int .i64 n, .int .i64 lo, .int .i64 hi] w fun e w' => e = .returned (.bool (in64 n lo hi)) ∧ w = w' := by
  by_cases h1 : lo ≤ n
  · by_cases h2 : n ≤ hi
    · have HX := Lib.hid (show in64 n lo hi = true by rw [in64_iff]; omega)
      go_enter Try.func79, Try.ntmps79
      go_wp2
      go_ret
      exact ⟨one (vbool (by rw [HX.out])), rfl⟩
    · have HX := Lib.hid (show in64 n lo hi = false by rw [Bool.eq_false_iff, Ne, in64_iff]; omega)
      go_enter Try.func79, Try.ntmps79
      go_wp2
      go_ret
      exact ⟨one (vbool (by rw [HX.out])), rfl⟩
  · have HX := Lib.hid (show in64 n lo hi = false by rw [Bool.eq_false_iff, Ne, in64_iff]; omega)
    go_enter Try.func79, Try.ntmps79
    go_wp2
    go_ret
    exact ⟨one (vbool (by rw [HX.out])), rfl⟩
theorem zkin (n lo hi : Int) (w : World) : Calls Try.prog 44 #[.int .i64 n, .int .i64 lo, .int .i64 hi] w fun e w' => e = .returned (.bool (in64 n lo hi)) ∧ w = w' := by
  have H := Lib.hid (zwithin1 n lo hi w)
  obtain ⟨V, hV⟩ : ∃ V, in64 n lo hi = V := ⟨_, rfl⟩
  rw [hV] at H ⊢
  clear hV
  go_enter Try.func44, Try.ntmps44
  go_wp2_with (go_at_call 79; (with_reducible refine H.out.mono ?_); rintro x w' ⟨rfl, rfl⟩)
  go_ret
  exact ⟨rfl, rfl⟩
theorem zktext (s : ByteArray) (w : World) (hs : s.size ≤ maxLen) : Calls Try.prog 45 #[.string s] w fun e w' => e = .returned (.bool (txtV s)) ∧ w = w' := by
  have H := Lib.hid (uname s w hs)
  obtain ⟨V, hV⟩ : ∃ V, nameV s = V := ⟨_, rfl⟩
  rw [hV] at H
  have HT := Lib.hid (show txtV s = (decide (s.toList = []) || V) by rw [← hV]; rfl)
  clear hV
  by_cases he : s.toList = []
  · have he3 : s.toList.isEmpty = true := by rw [he]; rfl
    have HX := Lib.hid (show txtV s = true by rw [HT.out, decide_eq_true he]; rfl)
    go_enter Try.func45, Try.ntmps45
    go_wp2_with (go_at_call 80; (with_reducible refine H.out.mono ?_); rintro x w' ⟨rfl, rfl⟩)
    go_ret
    exact ⟨one (vbool (by rw [HX.out])), rfl⟩
  · have he3 : s.toList.isEmpty = false := by
      cases hq : s.toList with
      | nil => exact absurd hq he
      | cons _ _ => rfl
    have HX := Lib.hid (show txtV s = V by rw [HT.out, decide_eq_false he]; rfl)
    go_enter Try.func45, Try.ntmps45
    go_wp2_with (go_at_call 80; (with_reducible refine H.out.mono ?_); rintro x w' ⟨rfl, rfl⟩)
    go_ret
    exact ⟨one (vbool (by rw [HX.out])), rfl⟩
set_option maxRecDepth 100000 in
set_option maxHeartbeats 16000000 in
theorem zkcheck (x : CmX) (w : World) (h : x.fit w) : Calls Try.prog 13 #[.agg x.cells.toArray] w fun e w' => e = .returned (.int .i64 x.m.err) ∧ Below w.heap.size w w' := by
  obtain ⟨⟨cl, sq, kd, id, ep, V, sp, nm, nu, by1, ti, PL⟩, va, vn, vc, pa, pn, pc⟩ := x
  have hV := h.V
  have hP := h.P
  have hsp := h.sp
  have hnm := h.nm
  dsimp only at hV hP hsp hnm ⊢
  have H := Lib.hid hV.ls
  have HL := Lib.hid hV.hlen
  have hmx := hV.hmax
  have hle := hV.hle
  have HB := Lib.hid (fun w' (hb : Below w.heap.size w w') => ubytes pa pn pc PL w' (hP.mono pcOk hb))
  obtain ⟨nb, eb, hbe⟩ : ∃ b e, bytesM PL = (b, e) := ⟨_, _, rfl⟩
  have he01 : eb = 0 ∨ eb = 1 := by have := bytesM_two PL; rw [hbe] at this; exact this
  rw [hbe] at HB
  dsimp only at HB
  obtain ⟨E, hE⟩ : ∃ E, Cm.err ⟨cl, sq, kd, id, ep, V, sp, nm, nu, by1, ti, PL⟩ = E := ⟨_, rfl⟩
  rw [hE]
  obtain ⟨b0, h0⟩ : ∃ b, in64 cl 0 7 = b := ⟨_, rfl⟩
  obtain ⟨b1, h1⟩ : ∃ b, in64 sq 1 2147483648 = b := ⟨_, rfl⟩
  obtain ⟨b2, h2⟩ : ∃ b, in64 kd 1 14 = b := ⟨_, rfl⟩
  obtain ⟨b3, h3⟩ : ∃ b, in64 id 1 2147483648 = b := ⟨_, rfl⟩
  obtain ⟨b4, h4⟩ : ∃ b, in64 ep 0 2147483648 = b := ⟨_, rfl⟩
  obtain ⟨b5, h5⟩ : ∃ b, decide (vn ≤ 8) = b := ⟨_, rfl⟩
  obtain ⟨b6, h6⟩ : ∃ b, txtV sp = b := ⟨_, rfl⟩
  obtain ⟨b7, h7⟩ : ∃ b, txtV nm = b := ⟨_, rfl⟩
  obtain ⟨b8, h8⟩ : ∃ b, in64 nu 0 2147483648 = b := ⟨_, rfl⟩
  obtain ⟨b9, h9⟩ : ∃ b, in64 by1 0 1099511627776 = b := ⟨_, rfl⟩
  obtain ⟨b10, h10⟩ : ∃ b, in64 ti 0 1099511627776 = b := ⟨_, rfl⟩
  obtain ⟨okb, hokb⟩ : ∃ b, ((((((((((b0 && b1) && b2) && b3) && b4) && b5) && b6) && b7) && b8) && b9) && b10) = b := ⟨_, rfl⟩
  have HX := Lib.hid (show E = if ((okb && V.all Cv.ok) && decide (eb = 0)) = true then 0 else 1 by
    rw [← hE, ← hokb]
    unfold Cm.err
    rw [show Cm.ok ⟨cl, sq, kd, id, ep, V, sp, nm, nu, by1, ti, PL⟩ = ((((((((((((b0 && b1) && b2) && b3) && b4) && b5) && b6) && b7) && b8) && b9) && b10) && V.all Cv.ok) && decide (eb = 0)) by
      unfold Cm.ok allLH cavsV
      simp only [List.all_cons, List.all_nil, Bool.and_true, hbe, hV.hlen, h0, h1, h2, h3, h4, h5, h6, h7, h8, h9, h10]
      cases b0 <;> cases b1 <;> cases b2 <;> cases b3 <;> cases b4 <;> cases b5 <;> cases b6 <;> cases b7 <;> cases b8 <;> cases b9 <;> cases b10 <;> simp])
  have I0 := Lib.hid (fun w => (by have q := zkin cl 0 7 w; rw [h0] at q; exact q : Calls Try.prog 44 #[.int .i64 cl, .int .i64 0, .int .i64 7] w fun e w' => e = .returned (.bool b0) ∧ w = w'))
  have I1 := Lib.hid (fun w => (by have q := zkin sq 1 2147483648 w; rw [h1] at q; exact q : Calls Try.prog 44 #[.int .i64 sq, .int .i64 1, .int .i64 2147483648] w fun e w' => e = .returned (.bool b1) ∧ w = w'))
  have I2 := Lib.hid (fun w => (by have q := zkin kd 1 14 w; rw [h2] at q; exact q : Calls Try.prog 44 #[.int .i64 kd, .int .i64 1, .int .i64 14] w fun e w' => e = .returned (.bool b2) ∧ w = w'))
  have I3 := Lib.hid (fun w => (by have q := zkin id 1 2147483648 w; rw [h3] at q; exact q : Calls Try.prog 44 #[.int .i64 id, .int .i64 1, .int .i64 2147483648] w fun e w' => e = .returned (.bool b3) ∧ w = w'))
  have I4 := Lib.hid (fun w => (by have q := zkin ep 0 2147483648 w; rw [h4] at q; exact q : Calls Try.prog 44 #[.int .i64 ep, .int .i64 0, .int .i64 2147483648] w fun e w' => e = .returned (.bool b4) ∧ w = w'))
  have I6 := Lib.hid (fun w => (by have q := zktext sp w hsp; rw [h6] at q; exact q : Calls Try.prog 45 #[.string sp] w fun e w' => e = .returned (.bool b6) ∧ w = w'))
  have I7 := Lib.hid (fun w => (by have q := zktext nm w hnm; rw [h7] at q; exact q : Calls Try.prog 45 #[.string nm] w fun e w' => e = .returned (.bool b7) ∧ w = w'))
  have I8 := Lib.hid (fun w => (by have q := zkin nu 0 2147483648 w; rw [h8] at q; exact q : Calls Try.prog 44 #[.int .i64 nu, .int .i64 0, .int .i64 2147483648] w fun e w' => e = .returned (.bool b8) ∧ w = w'))
  have I9 := Lib.hid (fun w => (by have q := zkin by1 0 1099511627776 w; rw [h9] at q; exact q : Calls Try.prog 44 #[.int .i64 by1, .int .i64 0, .int .i64 1099511627776] w fun e w' => e = .returned (.bool b9) ∧ w = w'))
  have I10 := Lib.hid (fun w => (by have q := zkin ti 0 1099511627776 w; rw [h10] at q; exact q : Calls Try.prog 44 #[.int .i64 ti, .int .i64 0, .int .i64 1099511627776] w fun e w' => e = .returned (.bool b10) ∧ w = w'))
  have g5 : b5 = true → (vn : Int) ≤ 8 := fun e => by rw [e] at h5; have := of_decide_eq_true h5; omega
  have f5 : b5 = false → ¬ (vn : Int) ≤ 8 := fun e => by rw [e] at h5; have := of_decide_eq_false h5; omega
  have HOKB := Lib.hid hokb
  have G5 := Lib.hid g5
  have F5 := Lib.hid f5
  clear h hV hP hsp hnm hbe hE h0 h1 h2 h3 h4 h5 h6 h7 h8 h9 h10 hokb g5 f5
  go_enter Try.func13, Try.ntmps13
  go_upto_region 1 with (first
    | ((with_reducible refine box_row (o := ⟨some 1, _, _, _, _, _⟩) rfl _ _ rfl (cmC cl sq kd id ep va vn vc sp nm nu by1 ti pa pn pc) rfl ?_); intro w1 hr hb hz; have X1 := Lib.hid hr; have B1 := Lib.hid hb; clear hr hb hz))
  go_cut [3] from 7 (fun v wx => v = .bool okb ∧ wx = w1)
  case first =>
    obtain ⟨c0, c1, c2, c3, c4, c5, c6, c7, c8, c9, c10, c11⟩ := X1.out.cm'
    cases b0
    · go_wp2_with (first
        | (go_at_call 44; (with_reducible refine (I0.out _).mono ?_); rintro x w' ⟨rfl, rfl⟩)
        | (go_at_call 44; (with_reducible refine (I1.out _).mono ?_); rintro x w' ⟨rfl, rfl⟩)
        | (go_at_call 44; (with_reducible refine (I2.out _).mono ?_); rintro x w' ⟨rfl, rfl⟩)
        | (go_at_call 44; (with_reducible refine (I3.out _).mono ?_); rintro x w' ⟨rfl, rfl⟩)
        | (go_at_call 44; (with_reducible refine (I4.out _).mono ?_); rintro x w' ⟨rfl, rfl⟩)
        | (go_at_call 45; (with_reducible refine (I6.out _).mono ?_); rintro x w' ⟨rfl, rfl⟩)
        | (go_at_call 45; (with_reducible refine (I7.out _).mono ?_); rintro x w' ⟨rfl, rfl⟩)
        | (go_at_call 44; (with_reducible refine (I8.out _).mono ?_); rintro x w' ⟨rfl, rfl⟩)
        | (go_at_call 44; (with_reducible refine (I9.out _).mono ?_); rintro x w' ⟨rfl, rfl⟩)
        | (go_at_call 44; (with_reducible refine (I10.out _).mono ?_); rintro x w' ⟨rfl, rfl⟩))
      go_meet
      case rel => exact ⟨by rw [← HOKB.out]; rfl, rfl⟩
    · skip
      cases b1
      · go_wp2_with (first
          | (go_at_call 44; (with_reducible refine (I0.out _).mono ?_); rintro x w' ⟨rfl, rfl⟩)
          | (go_at_call 44; (with_reducible refine (I1.out _).mono ?_); rintro x w' ⟨rfl, rfl⟩)
          | (go_at_call 44; (with_reducible refine (I2.out _).mono ?_); rintro x w' ⟨rfl, rfl⟩)
          | (go_at_call 44; (with_reducible refine (I3.out _).mono ?_); rintro x w' ⟨rfl, rfl⟩)
          | (go_at_call 44; (with_reducible refine (I4.out _).mono ?_); rintro x w' ⟨rfl, rfl⟩)
          | (go_at_call 45; (with_reducible refine (I6.out _).mono ?_); rintro x w' ⟨rfl, rfl⟩)
          | (go_at_call 45; (with_reducible refine (I7.out _).mono ?_); rintro x w' ⟨rfl, rfl⟩)
          | (go_at_call 44; (with_reducible refine (I8.out _).mono ?_); rintro x w' ⟨rfl, rfl⟩)
          | (go_at_call 44; (with_reducible refine (I9.out _).mono ?_); rintro x w' ⟨rfl, rfl⟩)
          | (go_at_call 44; (with_reducible refine (I10.out _).mono ?_); rintro x w' ⟨rfl, rfl⟩))
        go_meet
        case rel => exact ⟨by rw [← HOKB.out]; rfl, rfl⟩
      · skip
        cases b2
        · go_wp2_with (first
            | (go_at_call 44; (with_reducible refine (I0.out _).mono ?_); rintro x w' ⟨rfl, rfl⟩)
            | (go_at_call 44; (with_reducible refine (I1.out _).mono ?_); rintro x w' ⟨rfl, rfl⟩)
            | (go_at_call 44; (with_reducible refine (I2.out _).mono ?_); rintro x w' ⟨rfl, rfl⟩)
            | (go_at_call 44; (with_reducible refine (I3.out _).mono ?_); rintro x w' ⟨rfl, rfl⟩)
            | (go_at_call 44; (with_reducible refine (I4.out _).mono ?_); rintro x w' ⟨rfl, rfl⟩)
            | (go_at_call 45; (with_reducible refine (I6.out _).mono ?_); rintro x w' ⟨rfl, rfl⟩)
            | (go_at_call 45; (with_reducible refine (I7.out _).mono ?_); rintro x w' ⟨rfl, rfl⟩)
            | (go_at_call 44; (with_reducible refine (I8.out _).mono ?_); rintro x w' ⟨rfl, rfl⟩)
            | (go_at_call 44; (with_reducible refine (I9.out _).mono ?_); rintro x w' ⟨rfl, rfl⟩)
            | (go_at_call 44; (with_reducible refine (I10.out _).mono ?_); rintro x w' ⟨rfl, rfl⟩))
          go_meet
          case rel => exact ⟨by rw [← HOKB.out]; rfl, rfl⟩
        · skip
          cases b3
          · go_wp2_with (first
              | (go_at_call 44; (with_reducible refine (I0.out _).mono ?_); rintro x w' ⟨rfl, rfl⟩)
              | (go_at_call 44; (with_reducible refine (I1.out _).mono ?_); rintro x w' ⟨rfl, rfl⟩)
              | (go_at_call 44; (with_reducible refine (I2.out _).mono ?_); rintro x w' ⟨rfl, rfl⟩)
              | (go_at_call 44; (with_reducible refine (I3.out _).mono ?_); rintro x w' ⟨rfl, rfl⟩)
              | (go_at_call 44; (with_reducible refine (I4.out _).mono ?_); rintro x w' ⟨rfl, rfl⟩)
              | (go_at_call 45; (with_reducible refine (I6.out _).mono ?_); rintro x w' ⟨rfl, rfl⟩)
              | (go_at_call 45; (with_reducible refine (I7.out _).mono ?_); rintro x w' ⟨rfl, rfl⟩)
              | (go_at_call 44; (with_reducible refine (I8.out _).mono ?_); rintro x w' ⟨rfl, rfl⟩)
              | (go_at_call 44; (with_reducible refine (I9.out _).mono ?_); rintro x w' ⟨rfl, rfl⟩)
              | (go_at_call 44; (with_reducible refine (I10.out _).mono ?_); rintro x w' ⟨rfl, rfl⟩))
            go_meet
            case rel => exact ⟨by rw [← HOKB.out]; rfl, rfl⟩
          · skip
            cases b4
            · go_wp2_with (first
                | (go_at_call 44; (with_reducible refine (I0.out _).mono ?_); rintro x w' ⟨rfl, rfl⟩)
                | (go_at_call 44; (with_reducible refine (I1.out _).mono ?_); rintro x w' ⟨rfl, rfl⟩)
                | (go_at_call 44; (with_reducible refine (I2.out _).mono ?_); rintro x w' ⟨rfl, rfl⟩)
                | (go_at_call 44; (with_reducible refine (I3.out _).mono ?_); rintro x w' ⟨rfl, rfl⟩)
                | (go_at_call 44; (with_reducible refine (I4.out _).mono ?_); rintro x w' ⟨rfl, rfl⟩)
                | (go_at_call 45; (with_reducible refine (I6.out _).mono ?_); rintro x w' ⟨rfl, rfl⟩)
                | (go_at_call 45; (with_reducible refine (I7.out _).mono ?_); rintro x w' ⟨rfl, rfl⟩)
                | (go_at_call 44; (with_reducible refine (I8.out _).mono ?_); rintro x w' ⟨rfl, rfl⟩)
                | (go_at_call 44; (with_reducible refine (I9.out _).mono ?_); rintro x w' ⟨rfl, rfl⟩)
                | (go_at_call 44; (with_reducible refine (I10.out _).mono ?_); rintro x w' ⟨rfl, rfl⟩))
              go_meet
              case rel => exact ⟨by rw [← HOKB.out]; rfl, rfl⟩
            · skip
              cases b5
              · have g5 := F5.out rfl
                go_wp2_with (first
                  | (go_at_call 44; (with_reducible refine (I0.out _).mono ?_); rintro x w' ⟨rfl, rfl⟩)
                  | (go_at_call 44; (with_reducible refine (I1.out _).mono ?_); rintro x w' ⟨rfl, rfl⟩)
                  | (go_at_call 44; (with_reducible refine (I2.out _).mono ?_); rintro x w' ⟨rfl, rfl⟩)
                  | (go_at_call 44; (with_reducible refine (I3.out _).mono ?_); rintro x w' ⟨rfl, rfl⟩)
                  | (go_at_call 44; (with_reducible refine (I4.out _).mono ?_); rintro x w' ⟨rfl, rfl⟩)
                  | (go_at_call 45; (with_reducible refine (I6.out _).mono ?_); rintro x w' ⟨rfl, rfl⟩)
                  | (go_at_call 45; (with_reducible refine (I7.out _).mono ?_); rintro x w' ⟨rfl, rfl⟩)
                  | (go_at_call 44; (with_reducible refine (I8.out _).mono ?_); rintro x w' ⟨rfl, rfl⟩)
                  | (go_at_call 44; (with_reducible refine (I9.out _).mono ?_); rintro x w' ⟨rfl, rfl⟩)
                  | (go_at_call 44; (with_reducible refine (I10.out _).mono ?_); rintro x w' ⟨rfl, rfl⟩))
                go_meet
                case rel => exact ⟨by rw [← HOKB.out]; rfl, rfl⟩
              · skip
                cases b6
                · have g5 := G5.out rfl
                  go_wp2_with (first
                    | (go_at_call 44; (with_reducible refine (I0.out _).mono ?_); rintro x w' ⟨rfl, rfl⟩)
                    | (go_at_call 44; (with_reducible refine (I1.out _).mono ?_); rintro x w' ⟨rfl, rfl⟩)
                    | (go_at_call 44; (with_reducible refine (I2.out _).mono ?_); rintro x w' ⟨rfl, rfl⟩)
                    | (go_at_call 44; (with_reducible refine (I3.out _).mono ?_); rintro x w' ⟨rfl, rfl⟩)
                    | (go_at_call 44; (with_reducible refine (I4.out _).mono ?_); rintro x w' ⟨rfl, rfl⟩)
                    | (go_at_call 45; (with_reducible refine (I6.out _).mono ?_); rintro x w' ⟨rfl, rfl⟩)
                    | (go_at_call 45; (with_reducible refine (I7.out _).mono ?_); rintro x w' ⟨rfl, rfl⟩)
                    | (go_at_call 44; (with_reducible refine (I8.out _).mono ?_); rintro x w' ⟨rfl, rfl⟩)
                    | (go_at_call 44; (with_reducible refine (I9.out _).mono ?_); rintro x w' ⟨rfl, rfl⟩)
                    | (go_at_call 44; (with_reducible refine (I10.out _).mono ?_); rintro x w' ⟨rfl, rfl⟩))
                  go_meet
                  case rel => exact ⟨by rw [← HOKB.out]; rfl, rfl⟩
                · skip
                  cases b7
                  · have g5 := G5.out rfl
                    go_wp2_with (first
                      | (go_at_call 44; (with_reducible refine (I0.out _).mono ?_); rintro x w' ⟨rfl, rfl⟩)
                      | (go_at_call 44; (with_reducible refine (I1.out _).mono ?_); rintro x w' ⟨rfl, rfl⟩)
                      | (go_at_call 44; (with_reducible refine (I2.out _).mono ?_); rintro x w' ⟨rfl, rfl⟩)
                      | (go_at_call 44; (with_reducible refine (I3.out _).mono ?_); rintro x w' ⟨rfl, rfl⟩)
                      | (go_at_call 44; (with_reducible refine (I4.out _).mono ?_); rintro x w' ⟨rfl, rfl⟩)
                      | (go_at_call 45; (with_reducible refine (I6.out _).mono ?_); rintro x w' ⟨rfl, rfl⟩)
                      | (go_at_call 45; (with_reducible refine (I7.out _).mono ?_); rintro x w' ⟨rfl, rfl⟩)
                      | (go_at_call 44; (with_reducible refine (I8.out _).mono ?_); rintro x w' ⟨rfl, rfl⟩)
                      | (go_at_call 44; (with_reducible refine (I9.out _).mono ?_); rintro x w' ⟨rfl, rfl⟩)
                      | (go_at_call 44; (with_reducible refine (I10.out _).mono ?_); rintro x w' ⟨rfl, rfl⟩))
                    go_meet
                    case rel => exact ⟨by rw [← HOKB.out]; rfl, rfl⟩
                  · skip
                    cases b8
                    · have g5 := G5.out rfl
                      go_wp2_with (first
                        | (go_at_call 44; (with_reducible refine (I0.out _).mono ?_); rintro x w' ⟨rfl, rfl⟩)
                        | (go_at_call 44; (with_reducible refine (I1.out _).mono ?_); rintro x w' ⟨rfl, rfl⟩)
                        | (go_at_call 44; (with_reducible refine (I2.out _).mono ?_); rintro x w' ⟨rfl, rfl⟩)
                        | (go_at_call 44; (with_reducible refine (I3.out _).mono ?_); rintro x w' ⟨rfl, rfl⟩)
                        | (go_at_call 44; (with_reducible refine (I4.out _).mono ?_); rintro x w' ⟨rfl, rfl⟩)
                        | (go_at_call 45; (with_reducible refine (I6.out _).mono ?_); rintro x w' ⟨rfl, rfl⟩)
                        | (go_at_call 45; (with_reducible refine (I7.out _).mono ?_); rintro x w' ⟨rfl, rfl⟩)
                        | (go_at_call 44; (with_reducible refine (I8.out _).mono ?_); rintro x w' ⟨rfl, rfl⟩)
                        | (go_at_call 44; (with_reducible refine (I9.out _).mono ?_); rintro x w' ⟨rfl, rfl⟩)
                        | (go_at_call 44; (with_reducible refine (I10.out _).mono ?_); rintro x w' ⟨rfl, rfl⟩))
                      go_meet
                      case rel => exact ⟨by rw [← HOKB.out]; rfl, rfl⟩
                    · skip
                      cases b9
                      · have g5 := G5.out rfl
                        go_wp2_with (first
                          | (go_at_call 44; (with_reducible refine (I0.out _).mono ?_); rintro x w' ⟨rfl, rfl⟩)
                          | (go_at_call 44; (with_reducible refine (I1.out _).mono ?_); rintro x w' ⟨rfl, rfl⟩)
                          | (go_at_call 44; (with_reducible refine (I2.out _).mono ?_); rintro x w' ⟨rfl, rfl⟩)
                          | (go_at_call 44; (with_reducible refine (I3.out _).mono ?_); rintro x w' ⟨rfl, rfl⟩)
                          | (go_at_call 44; (with_reducible refine (I4.out _).mono ?_); rintro x w' ⟨rfl, rfl⟩)
                          | (go_at_call 45; (with_reducible refine (I6.out _).mono ?_); rintro x w' ⟨rfl, rfl⟩)
                          | (go_at_call 45; (with_reducible refine (I7.out _).mono ?_); rintro x w' ⟨rfl, rfl⟩)
                          | (go_at_call 44; (with_reducible refine (I8.out _).mono ?_); rintro x w' ⟨rfl, rfl⟩)
                          | (go_at_call 44; (with_reducible refine (I9.out _).mono ?_); rintro x w' ⟨rfl, rfl⟩)
                          | (go_at_call 44; (with_reducible refine (I10.out _).mono ?_); rintro x w' ⟨rfl, rfl⟩))
                        go_meet
                        case rel => exact ⟨by rw [← HOKB.out]; rfl, rfl⟩
                      · skip
                        cases b10
                        · have g5 := G5.out rfl
                          go_wp2_with (first
                            | (go_at_call 44; (with_reducible refine (I0.out _).mono ?_); rintro x w' ⟨rfl, rfl⟩)
                            | (go_at_call 44; (with_reducible refine (I1.out _).mono ?_); rintro x w' ⟨rfl, rfl⟩)
                            | (go_at_call 44; (with_reducible refine (I2.out _).mono ?_); rintro x w' ⟨rfl, rfl⟩)
                            | (go_at_call 44; (with_reducible refine (I3.out _).mono ?_); rintro x w' ⟨rfl, rfl⟩)
                            | (go_at_call 44; (with_reducible refine (I4.out _).mono ?_); rintro x w' ⟨rfl, rfl⟩)
                            | (go_at_call 45; (with_reducible refine (I6.out _).mono ?_); rintro x w' ⟨rfl, rfl⟩)
                            | (go_at_call 45; (with_reducible refine (I7.out _).mono ?_); rintro x w' ⟨rfl, rfl⟩)
                            | (go_at_call 44; (with_reducible refine (I8.out _).mono ?_); rintro x w' ⟨rfl, rfl⟩)
                            | (go_at_call 44; (with_reducible refine (I9.out _).mono ?_); rintro x w' ⟨rfl, rfl⟩)
                            | (go_at_call 44; (with_reducible refine (I10.out _).mono ?_); rintro x w' ⟨rfl, rfl⟩))
                          go_meet
                          case rel => exact ⟨by rw [← HOKB.out]; rfl, rfl⟩
                        · skip
                          have g5 := G5.out rfl
                          go_wp2_with (first
                            | (go_at_call 44; (with_reducible refine (I0.out _).mono ?_); rintro x w' ⟨rfl, rfl⟩)
                            | (go_at_call 44; (with_reducible refine (I1.out _).mono ?_); rintro x w' ⟨rfl, rfl⟩)
                            | (go_at_call 44; (with_reducible refine (I2.out _).mono ?_); rintro x w' ⟨rfl, rfl⟩)
                            | (go_at_call 44; (with_reducible refine (I3.out _).mono ?_); rintro x w' ⟨rfl, rfl⟩)
                            | (go_at_call 44; (with_reducible refine (I4.out _).mono ?_); rintro x w' ⟨rfl, rfl⟩)
                            | (go_at_call 45; (with_reducible refine (I6.out _).mono ?_); rintro x w' ⟨rfl, rfl⟩)
                            | (go_at_call 45; (with_reducible refine (I7.out _).mono ?_); rintro x w' ⟨rfl, rfl⟩)
                            | (go_at_call 44; (with_reducible refine (I8.out _).mono ?_); rintro x w' ⟨rfl, rfl⟩)
                            | (go_at_call 44; (with_reducible refine (I9.out _).mono ?_); rintro x w' ⟨rfl, rfl⟩)
                            | (go_at_call 44; (with_reducible refine (I10.out _).mono ?_); rintro x w' ⟨rfl, rfl⟩))
                          go_meet
                          case rel => exact ⟨by rw [← HOKB.out]; rfl, rfl⟩
  case rest =>
    obtain ⟨rfl, rfl⟩ := hcut
    obtain ⟨w1, rfl⟩ : ∃ w1 : World, w1 = wc := ⟨_, rfl⟩
    clear I0 I1 I2 I3 I4 I6 I7 I8 I9 I10 HOKB G5 F5
    go_wp2_with fail
    go_loopw [3, 4] (fun v i wr => ∃ (k : Nat) (q : Bool), v = .bool q ∧ i = .int .i64 (k : Int) ∧ k ≤ vn ∧ Hid ((okb && (V.take k).all Cv.ok) = q) ∧ Hid (Below w1.heap.size w1 wr)) (fun _ i _ => vn - (intOf i).toNat)
    case atStart => exact ⟨0, okb, rfl, rfl, Nat.zero_le _, Lib.hid (by simp), Lib.hid (Below.refl _ _)⟩
    case round =>
      obtain ⟨k, q, rfl, rfl, hk, A, B⟩ := hrel
      have BW := Lib.hid (B1.out.trans (B.out.mono B1.out.size))
      have XR := Lib.hid (X1.out.below B.out X1.out.lt)
      have c5 := XR.out.cm'.c5
      have c11 := XR.out.cm'.c11
      cases q
      · have HF := Lib.hid (show (okb && V.all Cv.ok) = false by
          rw [Bool.eq_false_iff, Ne, Bool.and_eq_true]
          rintro ⟨e1, e2⟩
          have := A.out
          rw [e1, Bool.true_and] at this
          rw [List.all_eq_true] at e2
          have h2 : (V.take k).all Cv.ok = true := List.all_eq_true.2 fun c hc => e2 c (List.mem_of_mem_take hc)
          rw [h2] at this; cases this)
        have HY := Lib.hid (show E = 1 by rw [HX.out, HF.out]; rfl)
        go_wp2_with (first
          | (go_at_call 47; (with_reducible refine (HB.out wr BW.out).mono ?_); rintro x w7 ⟨rfl, hb⟩; have B7 := Lib.hid (BW.out.trans (hb.mono BW.out.size)); clear hb))
        go_ret
        exact ⟨one (vint (by rw [HY.out])), B7.out⟩
      · by_cases hlt : k < vn
        · obtain ⟨b, off, x, rfl, hx, hcell, hfx⟩ := H.out.at cvOk BW.out k hlt
          obtain ⟨ok, hok⟩ : ∃ b, x.ok = b := ⟨_, rfl⟩
          have HN := Lib.hid (show (okb && (V.take (k + 1)).all Cv.ok) = ok by rw [okc_next V k x hx, ← Bool.and_assoc, A.out, Bool.true_and, hok])
          have hce : x.err = if ok then 0 else 1 := by unfold Cv.err; rw [hok]
          have HU := Lib.hid (fun w' => (by have q := ucheck x w' hfx; rw [hce] at q; exact q : Calls Try.prog 46 #[x.val] w' fun e w'' => e = .returned (.int .i64 (if ok then 0 else 1)) ∧ Below w'.heap.size w' w''))
          obtain ⟨x0, x1, x2⟩ := cvC b off k wr x hcell
          obtain ⟨kind, num, name⟩ := x
          dsimp only at x0 x1 x2
          have g1 : (0 : Int) ≤ (k : Int) := by omega
          have g2 : (k : Int) < (vn : Int) := by omega
          clear hx hcell hfx hok hce
          cases ok
          · have HU2 := Lib.hid (fun w' => show Calls Try.prog 46 #[.agg #[.int .i64 kind, .int .i64 num, .string name]] w' fun e w'' => e = .returned (.int .i64 1) ∧ Below w'.heap.size w' w'' from HU.out w')
            clear HU
            go_wp2_with (first
              | (go_at_call 46; (with_reducible refine (HU2.out _).mono ?_); rintro x w7 ⟨rfl, hb⟩; have B7 := Lib.hid (B.out.trans (hb.mono B.out.size)); clear hb))
            go_roundw
            case rel => exact ⟨k + 1, false, rfl, vint (by omega), by omega, HN, B7⟩
            case measure => simp [intOf]; omega
          · have HU2 := Lib.hid (fun w' => show Calls Try.prog 46 #[.agg #[.int .i64 kind, .int .i64 num, .string name]] w' fun e w'' => e = .returned (.int .i64 0) ∧ Below w'.heap.size w' w'' from HU.out w')
            clear HU
            go_wp2_with (first
              | (go_at_call 46; (with_reducible refine (HU2.out _).mono ?_); rintro x w7 ⟨rfl, hb⟩; have B7 := Lib.hid (B.out.trans (hb.mono B.out.size)); clear hb))
            go_roundw
            case rel => exact ⟨k + 1, true, rfl, vint (by omega), by omega, HN, B7⟩
            case measure => simp [intOf]; omega
        · obtain rfl : vn = k := by omega
          have ht : V.take vn = V := List.take_of_length_le (by rw [HL.out]; exact Nat.le_refl _)
          have HF := Lib.hid (show (okb && V.all Cv.ok) = true by have := A.out; rw [ht] at this; exact this)
          clear ht
          rcases he01 with rfl | rfl
          · have HY := Lib.hid (show E = 0 by rw [HX.out, HF.out]; rfl)
            go_wp2_with (first
              | (go_at_call 47; (with_reducible refine (HB.out wr BW.out).mono ?_); rintro x w7 ⟨rfl, hb⟩; have B7 := Lib.hid (BW.out.trans (hb.mono BW.out.size)); clear hb))
            go_ret
            exact ⟨one (vint (by rw [HY.out])), B7.out⟩
          · have HY := Lib.hid (show E = 1 by rw [HX.out, HF.out]; rfl)
            go_wp2_with (first
              | (go_at_call 47; (with_reducible refine (HB.out wr BW.out).mono ?_); rintro x w7 ⟨rfl, hb⟩; have B7 := Lib.hid (BW.out.trans (hb.mono BW.out.size)); clear hb))
            go_ret
            exact ⟨one (vint (by rw [HY.out])), B7.out⟩
end Go.Proofs.Ytmacjpgeamlmhaa.W

namespace Go.Proofs.Ytmacjpgeamlmhaa.W
open Go Go.ChangeShapes Go.WideShapes Go.ChangeAt Go.RowKit
open Go.Proofs.Ytmacjpgeamlmhaa.P (enc dec)
open Go.Proofs.Ytmacjpgeamlmhaa.S

theorem rnumG (a : Option Addr) (len cap : Nat) (n : Int) (l : List UInt8) (w : World) (hr : Rd w a len cap l) (h2 : n ≤ 9223372036854775807) (hmax : len ≤ 140737488355000) (T : List UInt8) (hT : l ++ enc n.toNat = T) (q : Nat) (hq : T.length = q) :
    Calls Try.prog 34 #[.slice a len cap, .int .i64 n] w fun e w' => ∃ y d, e = .returned (.slice y q d) ∧ Fr w' w.heap.size (.slice y q d) T ∧ Rd w' y q d T ∧ Below w.heap.size w w' := by
  refine (rnum a len cap n l w hr h2 hmax).mono ?_
  rw [hT]
  rintro x w' ⟨v, rfl, hf, hb⟩
  obtain ⟨y, d, rfl, hr'⟩ := hf.form' q hq
  exact ⟨y, d, rfl, hf, hr', hb⟩
set_option maxRecDepth 100000 in
set_option maxHeartbeats 16000000 in
theorem zkencode (x : CmX) (w : World) (h : x.fit w) :
    Calls Try.prog 10 #[.agg x.cells.toArray] w fun z w' => ∃ y m d, z = .returned (.tuple #[.slice y m d, .int .i64 x.m.err]) ∧ Rd w' y m d (if x.m.ok then codeCm x.m else []) ∧ m ≤ 3000 ∧ Below w.heap.size w w' := by
  obtain ⟨⟨cl, sq, kd, id, ep, V, sp, nm, nu, by1, ti, PL⟩, va, vn, vc, pa, pn, pc⟩ := x
  have HK := Lib.hid (fun w' (hb : Below w.heap.size w w') => zkcheck ⟨⟨cl, sq, kd, id, ep, V, sp, nm, nu, by1, ti, PL⟩, va, vn, vc, pa, pn, pc⟩ w' (h.mono hb))
  have CZ := Lib.hid cm_size
  obtain ⟨ok, hok⟩ : ∃ b, Cm.ok ⟨cl, sq, kd, id, ep, V, sp, nm, nu, by1, ti, PL⟩ = b := ⟨_, rfl⟩
  have he : Cm.err ⟨cl, sq, kd, id, ep, V, sp, nm, nu, by1, ti, PL⟩ = if ok then 0 else 1 := by unfold Cm.err; rw [hok]
  dsimp only at HK ⊢
  rw [he] at HK ⊢
  rw [hok]
  cases ok
  · have HK2 := Lib.hid (fun w' (hb : Below w.heap.size w w') => show Calls Try.prog 13 #[.agg (cmC cl sq kd id ep va vn vc sp nm nu by1 ti pa pn pc).toArray] w' fun e w'' => e = .returned (.int .i64 1) ∧ Below w'.heap.size w' w'' from HK.out w' hb)
    clear h HK hok he
    go_enter Try.func10, Try.ntmps10
    go_wp2_with (first
      | ((with_reducible refine box_row (o := ⟨some 1, _, _, _, _, _⟩) rfl _ _ rfl (cmC cl sq kd id ep va vn vc sp nm nu by1 ti pa pn pc) rfl ?_); intro w1 hr hb hz; have X1 := Lib.hid hr; have B1 := Lib.hid hb; clear hr hb hz)
      | ((with_reducible refine load_row (o := ⟨some 5, _, _, _, _, _⟩) rfl _ _ rfl w.heap.size ?_ _ (cmC cl sq kd id ep va vn vc sp nm nu by1 ti pa pn pc) _ X1.out Try.underlying25 rfl ?_ ?_); (focus go_simp); (focus (exact CZ.out)))
      | (go_at_call 13; (with_reducible refine (HK2.out w1 B1.out).mono ?_); rintro e w2 ⟨rfl, hb⟩; have B2 := Lib.hid (B1.out.trans (hb.mono B1.out.size)); clear hb))
    go_ret2
    exact ⟨none, 0, 0, rfl, rd_nil_cm, by omega, B2.out⟩
  · have HK2 := Lib.hid (fun w' (hb : Below w.heap.size w w') => show Calls Try.prog 13 #[.agg (cmC cl sq kd id ep va vn vc sp nm nu by1 ti pa pn pc).toArray] w' fun e w'' => e = .returned (.int .i64 0) ∧ Below w'.heap.size w' w'' from HK.out w' hb)
    have OK := okCm hok
    have o1 := OK.V8
    have o2 := txt_16 OK.sp
    have o3 := txt_16 OK.nm
    have o4 := OK.P8
    have o5 := pok_32 OK.P
    obtain ⟨i0, i1, i2, i3, i4, hV, -, -, i8, i9, i10, hP⟩ := h
    dsimp only at o1 o2 o3 o4 o5 i0 i1 i2 i3 i4 hV i8 i9 i10 hP
    have I0 := Lib.hid i0
    have I1 := Lib.hid i1
    have I2 := Lib.hid i2
    have I3 := Lib.hid i3
    have I4 := Lib.hid i4
    have I8 := Lib.hid i8
    have I9 := Lib.hid i9
    have I10 := Lib.hid i10
    have hvn := hV.hlen
    have hpn := hP.hlen
    have e1 : sp.data.toList.length = sp.size := Array.length_toList
    have e2 : nm.data.toList.length = nm.size := Array.length_toList
    have l0 := P.enc_len cl.toNat (by have := i0.2; omega)
    have l1 := P.enc_len sq.toNat (by have := i1.2; omega)
    have l2 := P.enc_len kd.toNat (by have := i2.2; omega)
    have l3 := P.enc_len id.toNat (by have := i3.2; omega)
    have l4 := P.enc_len ep.toNat (by have := i4.2; omega)
    have lv := codeL_len V (by omega)
    have l6 := P.enc_len sp.size (by omega)
    have l7 := P.enc_len nm.size (by omega)
    have l8 := P.enc_len nu.toNat (by have := i8.2; omega)
    have l9 := P.enc_len by1.toNat (by have := i9.2; omega)
    have l10 := P.enc_len ti.toNat (by have := i10.2; omega)
    obtain ⟨TV, hTV⟩ : ∃ T, codeL V = T := ⟨_, rfl⟩
    obtain ⟨qv, hqv⟩ : ∃ q, TV.length = q := ⟨_, rfl⟩
    have bv : qv ≤ 329 := by rw [← hqv, ← hTV]; omega
    obtain ⟨T1, hT1⟩ : ∃ T, enc cl.toNat = T := ⟨_, rfl⟩
    obtain ⟨q1, hq1⟩ : ∃ q, T1.length = q := ⟨_, rfl⟩
    have b1 : q1 ≤ 9 := by rw [← hq1, ← hT1]; omega
    obtain ⟨T2, hT2⟩ : ∃ T, T1 ++ enc sq.toNat = T := ⟨_, rfl⟩
    obtain ⟨q2, hq2⟩ : ∃ q, T2.length = q := ⟨_, rfl⟩
    have b2 : q2 ≤ 18 := by rw [← hq2, ← hT2, List.length_append, hq1]; omega
    obtain ⟨T3, hT3⟩ : ∃ T, T2 ++ enc kd.toNat = T := ⟨_, rfl⟩
    obtain ⟨q3, hq3⟩ : ∃ q, T3.length = q := ⟨_, rfl⟩
    have b3 : q3 ≤ 27 := by rw [← hq3, ← hT3, List.length_append, hq2]; omega
    obtain ⟨T4, hT4⟩ : ∃ T, T3 ++ enc id.toNat = T := ⟨_, rfl⟩
    obtain ⟨q4, hq4⟩ : ∃ q, T4.length = q := ⟨_, rfl⟩
    have b4 : q4 ≤ 36 := by rw [← hq4, ← hT4, List.length_append, hq3]; omega
    obtain ⟨T5, hT5⟩ : ∃ T, T4 ++ enc ep.toNat = T := ⟨_, rfl⟩
    obtain ⟨q5, hq5⟩ : ∃ q, T5.length = q := ⟨_, rfl⟩
    have b5 : q5 ≤ 45 := by rw [← hq5, ← hT5, List.length_append, hq4]; omega
    obtain ⟨T6, hT6⟩ : ∃ T, T5 ++ TV = T := ⟨_, rfl⟩
    obtain ⟨q6, hq6⟩ : ∃ q, T6.length = q := ⟨_, rfl⟩
    have b6 : q6 ≤ 374 := by rw [← hq6, ← hT6, List.length_append, hq5, hqv]; omega
    obtain ⟨T7, hT7⟩ : ∃ T, T6 ++ (enc sp.size ++ sp.data.toList) = T := ⟨_, rfl⟩
    obtain ⟨q7, hq7⟩ : ∃ q, T7.length = q := ⟨_, rfl⟩
    have b7 : q7 ≤ 399 := by rw [← hq7, ← hT7, List.length_append, hq6, List.length_append, e1]; omega
    obtain ⟨T8, hT8⟩ : ∃ T, T7 ++ (enc nm.size ++ nm.data.toList) = T := ⟨_, rfl⟩
    obtain ⟨q8, hq8⟩ : ∃ q, T8.length = q := ⟨_, rfl⟩
    have b8 : q8 ≤ 424 := by rw [← hq8, ← hT8, List.length_append, hq7, List.length_append, e2]; omega
    obtain ⟨T9, hT9⟩ : ∃ T, T8 ++ enc nu.toNat = T := ⟨_, rfl⟩
    obtain ⟨q9, hq9⟩ : ∃ q, T9.length = q := ⟨_, rfl⟩
    have b9 : q9 ≤ 433 := by rw [← hq9, ← hT9, List.length_append, hq8]; omega
    obtain ⟨T10, hT10⟩ : ∃ T, T9 ++ enc by1.toNat = T := ⟨_, rfl⟩
    obtain ⟨q10, hq10⟩ : ∃ q, T10.length = q := ⟨_, rfl⟩
    have b10 : q10 ≤ 442 := by rw [← hq10, ← hT10, List.length_append, hq9]; omega
    obtain ⟨T11, hT11⟩ : ∃ T, T10 ++ enc ti.toNat = T := ⟨_, rfl⟩
    obtain ⟨q11, hq11⟩ : ∃ q, T11.length = q := ⟨_, rfl⟩
    have b11 : q11 ≤ 451 := by rw [← hq11, ← hT11, List.length_append, hq10]; omega
    obtain ⟨C, hC⟩ : ∃ C, codeCm ⟨cl, sq, kd, id, ep, V, sp, nm, nu, by1, ti, PL⟩ = C := ⟨_, rfl⟩
    rw [hC]
    have HC := Lib.hid (show T11 ++ (enc pn ++ PL.flatMap codeP) = C by rw [← hC, ← hT11, ← hT10, ← hT9, ← hT8, ← hT7, ← hT6, ← hT5, ← hT4, ← hT3, ← hT2, ← hT1, ← hTV, ← hpn]; unfold codeCm textC codeN; simp)
    have HM := Lib.hid (show (C.length : Nat) ≤ 3000 by
      rw [← HC.out, List.length_append, List.length_append, hq11]
      have h1 := P.enc_len pn (by omega)
      have h2 := code32 PL OK.P
      omega)
    have HT1 := Lib.hid (show [] ++ enc cl.toNat = T1 by rw [List.nil_append]; exact hT1)
    have HT2 := Lib.hid hT2
    have HT3 := Lib.hid hT3
    have HT4 := Lib.hid hT4
    have HT5 := Lib.hid hT5
    have HT6 := Lib.hid hT6
    have HT7 := Lib.hid hT7
    have HT8 := Lib.hid hT8
    have HT9 := Lib.hid hT9
    have HT10 := Lib.hid hT10
    have HT11 := Lib.hid hT11
    have Q1 := Lib.hid hq1
    have Q2 := Lib.hid hq2
    have Q3 := Lib.hid hq3
    have Q4 := Lib.hid hq4
    have Q5 := Lib.hid hq5
    have Q6 := Lib.hid hq6
    have Q7 := Lib.hid hq7
    have Q8 := Lib.hid hq8
    have Q9 := Lib.hid hq9
    have Q10 := Lib.hid hq10
    have Q11 := Lib.hid hq11
    have QV := Lib.hid hqv
    have HVC := Lib.hid (fun w' (hb : Below w.heap.size w w') => (by have q := ucode_any va vn vc V w' (hV.mono hb) (by omega); rw [hTV] at q; exact q : Calls Try.prog 35 #[.slice va vn vc] w' fun e w'' => ∃ v, e = .returned v ∧ Fr w'' w'.heap.size v TV ∧ Below w'.heap.size w' w''))
    have HPP := Lib.hid (fun y d w' (hb : Below w.heap.size w w') (hr : Rd w' y q11 d T11) => uputps y q11 d T11 pa pn pc PL w' hr (by omega) (hP.mono pcOk hb) (by omega) o5)
    clear HK hok he hV hP hC e1 e2 l0 l1 l2 l3 l4 lv l6 l7 l8 l9 l10 hvn hpn o5 OK hTV hqv hT1 hq1 hT2 hq2 hT3 hq3 hT4 hq4 hT5 hq5 hT6 hq6 hT7 hq7 hT8 hq8 hT9 hq9 hT10 hq10 hT11 hq11
    go_enter Try.func10, Try.ntmps10
    go_wp2_with (first
      | ((with_reducible refine box_row (o := ⟨some 1, _, _, _, _, _⟩) rfl _ _ rfl (cmC cl sq kd id ep va vn vc sp nm nu by1 ti pa pn pc) rfl ?_); intro w1 hr hb hz; have X1 := Lib.hid hr; have B1 := Lib.hid hb; clear hr hb hz)
      | ((with_reducible refine load_row (o := ⟨some 5, _, _, _, _, _⟩) rfl _ _ rfl w.heap.size ?_ _ (cmC cl sq kd id ep va vn vc sp nm nu by1 ti pa pn pc) _ X1.out Try.underlying25 rfl ?_ ?_); (focus go_simp); (focus (exact CZ.out)))
      | (go_at_call 13; (with_reducible refine (HK2.out w1 B1.out).mono ?_); rintro e w2 ⟨rfl, hb⟩; have X2 := Lib.hid (X1.out.below hb X1.out.lt); have B2 := Lib.hid (B1.out.trans (hb.mono B1.out.size)); clear hb))
    obtain ⟨C0, C1, C2, C3, C4, C5, C6, C7, C8, C9, C10, C11⟩ := X2.out.cm'
    have C0 := Lib.hid C0
    have C1 := Lib.hid C1
    have C2 := Lib.hid C2
    clear C3 C4 C5 C6 C7 C8 C9 C10 C11
    refine region_h (fun v => Below w2.heap.size w2 v) (by kernel_rfl) (by kernel_rfl) (Below.refl _ _).drew ?_
    obtain ⟨w10, hwd⟩ : ∃ wd, w2.drew = wd := ⟨_, rfl⟩
    have J10 : Hid (Below w2.heap.size w2 w10) := Lib.hid (by rw [← hwd]; exact (Below.refl _ _).drew)
    rw [hwd]
    clear hwd
    (refine h_read 0 rfl (by kernel_rfl) (by kernel_rfl) (h_free rfl) ?_ ?_ ?_; rotate_left; (focus (intro v hv; go_simp; rfl)); go_simp)
    (refine h_read 1 rfl (by kernel_rfl) (by kernel_rfl) (h_free rfl) ?_ ?_ ?_; rotate_left; (focus (intro v hv; have x0 := (hv.cell (p := ⟨w.heap.size, 0, none⟩) X2.out.lt).trans C0.out; have x1 := (hv.cell (p := ⟨w.heap.size, 1, none⟩) X2.out.lt).trans C1.out; have x2 := (hv.cell (p := ⟨w.heap.size, 2, none⟩) X2.out.lt).trans C2.out; go_simp; rfl)); go_simp)
    (refine h_read 3 rfl (by kernel_rfl) (by kernel_rfl) (h_free rfl) ?_ ?_ ?_; rotate_left; (focus (intro v hv; go_simp; rfl)); go_simp)
    (refine h_read 4 rfl (by kernel_rfl) (by kernel_rfl) (h_free rfl) ?_ ?_ ?_; rotate_left; (focus (intro v hv; have x0 := (hv.cell (p := ⟨w.heap.size, 0, none⟩) X2.out.lt).trans C0.out; have x1 := (hv.cell (p := ⟨w.heap.size, 1, none⟩) X2.out.lt).trans C1.out; have x2 := (hv.cell (p := ⟨w.heap.size, 2, none⟩) X2.out.lt).trans C2.out; go_simp; rfl)); go_simp)
    (refine h_read 6 rfl (by kernel_rfl) (by kernel_rfl) (h_free rfl) ?_ ?_ ?_; rotate_left; (focus (intro v hv; go_simp; rfl)); go_simp)
    (refine h_read 7 rfl (by kernel_rfl) (by kernel_rfl) (h_free rfl) ?_ ?_ ?_; rotate_left; (focus (intro v hv; have x0 := (hv.cell (p := ⟨w.heap.size, 0, none⟩) X2.out.lt).trans C0.out; have x1 := (hv.cell (p := ⟨w.heap.size, 1, none⟩) X2.out.lt).trans C1.out; have x2 := (hv.cell (p := ⟨w.heap.size, 2, none⟩) X2.out.lt).trans C2.out; go_simp; rfl)); go_simp)
    (refine h_call 2 rfl (by kernel_rfl) (h_free rfl) 34 ?_ ?_ ?_; rotate_left; (focus (go_simp; rfl)))
    refine (rnumF none 0 0 cl [] w10 rd_nil_cm I0.out.2 (by omega) T1 HT1.out q1 Q1.out).mono ?_
    rintro z w11 ⟨y11, d11, rfl, hrd, hb⟩
    skip
    have K11 := Lib.hid hrd
    have J11 := Lib.hid (J10.out.trans (hb.mono J10.out.size))
    clear hrd hb
    refine ⟨_, rfl, J11.out, ?_⟩
    go_simp
    (refine h_call 5 rfl (by kernel_rfl) (h_free rfl) 34 ?_ ?_ ?_; rotate_left; (focus (go_simp; rfl)))
    refine (rnumF y11 q1 d11 sq T1 w11 K11.out I1.out.2 (by omega) T2 HT2.out q2 Q2.out).mono ?_
    rintro z w12 ⟨y12, d12, rfl, hrd, hb⟩
    skip
    have K12 := Lib.hid hrd
    have J12 := Lib.hid (J11.out.trans (hb.mono J11.out.size))
    clear hrd hb
    refine ⟨_, rfl, J12.out, ?_⟩
    go_simp
    (refine h_call 8 rfl (by kernel_rfl) (h_free rfl) 34 ?_ ?_ ?_; rotate_left; (focus (go_simp; rfl)))
    refine (rnumF y12 q2 d12 kd T2 w12 K12.out I2.out.2 (by omega) T3 HT3.out q3 Q3.out).mono ?_
    rintro z w13 ⟨y13, d13, rfl, hrd, hb⟩
    skip
    have K13 := Lib.hid hrd
    have J13 := Lib.hid (J12.out.trans (hb.mono J12.out.size))
    clear hrd hb
    refine ⟨_, rfl, J13.out, ?_⟩
    go_simp
    (refine h_read 9 rfl (by kernel_rfl) (by kernel_rfl) (h_free rfl) ?_ ?_ ?_; rotate_left; (focus (intro v hv; go_simp; rfl)); go_simp)
    refine h_done (by kernel_rfl) ?_
    obtain ⟨w14, hw14⟩ : ∃ z, z = w13 := ⟨_, rfl⟩
    have X14 := Lib.hid (X2.out.below J13.out X2.out.lt)
    have B14 := Lib.hid (B2.out.trans (J13.out.mono B2.out.size))
    have K14 := K13
    rw [← hw14] at X14 B14 K14 ⊢
    clear hw14 C0 C1 C2
    go_wp2_with fail
    obtain ⟨C0, C1, C2, C3, C4, C5, C6, C7, C8, C9, C10, C11⟩ := X14.out.cm'
    have C3 := Lib.hid C3
    have C4 := Lib.hid C4
    have C5 := Lib.hid C5
    clear C0 C1 C2 C6 C7 C8 C9 C10 C11
    refine region_h (fun v => Below w14.heap.size w14 v) (by kernel_rfl) (by kernel_rfl) (Below.refl _ _).drew ?_
    obtain ⟨w20, hwd⟩ : ∃ wd, w14.drew = wd := ⟨_, rfl⟩
    have J20 : Hid (Below w14.heap.size w14 w20) := Lib.hid (by rw [← hwd]; exact (Below.refl _ _).drew)
    rw [hwd]
    clear hwd
    (refine h_read 0 rfl (by kernel_rfl) (by kernel_rfl) (h_free rfl) ?_ ?_ ?_; rotate_left; (focus (intro v hv; go_simp; rfl)); go_simp)
    (refine h_read 1 rfl (by kernel_rfl) (by kernel_rfl) (h_free rfl) ?_ ?_ ?_; rotate_left; (focus (intro v hv; go_simp; rfl)); go_simp)
    (refine h_read 2 rfl (by kernel_rfl) (by kernel_rfl) (h_free rfl) ?_ ?_ ?_; rotate_left; (focus (intro v hv; have x3 := (hv.cell (p := ⟨w.heap.size, 3, none⟩) X14.out.lt).trans C3.out; have x4 := (hv.cell (p := ⟨w.heap.size, 4, none⟩) X14.out.lt).trans C4.out; have x5 := (hv.cell (p := ⟨w.heap.size, 5, none⟩) X14.out.lt).trans C5.out; go_simp; rfl)); go_simp)
    (refine h_read 4 rfl (by kernel_rfl) (by kernel_rfl) (h_free rfl) ?_ ?_ ?_; rotate_left; (focus (intro v hv; go_simp; rfl)); go_simp)
    (refine h_read 5 rfl (by kernel_rfl) (by kernel_rfl) (h_free rfl) ?_ ?_ ?_; rotate_left; (focus (intro v hv; have x3 := (hv.cell (p := ⟨w.heap.size, 3, none⟩) X14.out.lt).trans C3.out; have x4 := (hv.cell (p := ⟨w.heap.size, 4, none⟩) X14.out.lt).trans C4.out; have x5 := (hv.cell (p := ⟨w.heap.size, 5, none⟩) X14.out.lt).trans C5.out; go_simp; rfl)); go_simp)
    (refine h_read 7 rfl (by kernel_rfl) (by kernel_rfl) (h_free rfl) ?_ ?_ ?_; rotate_left; (focus (intro v hv; go_simp; rfl)); go_simp)
    (refine h_read 8 rfl (by kernel_rfl) (by kernel_rfl) (h_free rfl) ?_ ?_ ?_; rotate_left; (focus (intro v hv; have x3 := (hv.cell (p := ⟨w.heap.size, 3, none⟩) X14.out.lt).trans C3.out; have x4 := (hv.cell (p := ⟨w.heap.size, 4, none⟩) X14.out.lt).trans C4.out; have x5 := (hv.cell (p := ⟨w.heap.size, 5, none⟩) X14.out.lt).trans C5.out; go_simp; rfl)); go_simp)
    (refine h_call 3 rfl (by kernel_rfl) (h_free rfl) 34 ?_ ?_ ?_; rotate_left; (focus (go_simp; rfl)))
    refine (rnumF y13 q3 d13 id T3 w20 (K14.out.mono J20.out) I3.out.2 (by omega) T4 HT4.out q4 Q4.out).mono ?_
    rintro z w21 ⟨y21, d21, rfl, hrd, hb⟩
    skip
    have K21 := Lib.hid hrd
    have J21 := Lib.hid (J20.out.trans (hb.mono J20.out.size))
    clear hrd hb
    refine ⟨_, rfl, J21.out, ?_⟩
    go_simp
    (refine h_call 6 rfl (by kernel_rfl) (h_free rfl) 34 ?_ ?_ ?_; rotate_left; (focus (go_simp; rfl)))
    refine (rnumG y21 q4 d21 ep T4 w21 K21.out I4.out.2 (by omega) T5 HT5.out q5 Q5.out).mono ?_
    rintro z w22 ⟨y22, d22, rfl, hf, hrd, hb⟩
    have F22 := Lib.hid (hf.base J21.out.size)
    have K22 := Lib.hid hrd
    have J22 := Lib.hid (J21.out.trans (hb.mono J21.out.size))
    clear hf hrd hb
    refine ⟨_, rfl, J22.out, ?_⟩
    go_simp
    (refine h_call 9 rfl (by kernel_rfl) (h_free rfl) 35 ?_ ?_ ?_; rotate_left; (focus (go_simp; rfl)))
    refine (HVC.out w22 (B14.out.trans (J22.out.mono B14.out.size))).mono ?_
    rintro z w23 ⟨v, rfl, hf, hb⟩
    obtain ⟨y23, d23, rfl, hrd⟩ := hf.form' qv QV.out
    have K23 := Lib.hid hrd
    have F23 := Lib.hid (F22.out.kept hb)
    have J23 := Lib.hid (J22.out.trans (hb.mono J22.out.size))
    clear hf hrd hb
    refine ⟨_, rfl, J23.out, ?_⟩
    go_simp
    (refine h_list 10 rfl (by kernel_rfl) ?_; intro K hK)
    refine append_rd rfl _ _ rfl w14.heap.size _ T5 (by first | (go_simp; done) | (go_simp; rfl)) F23.out y23 qv d23 _ (by first | (go_simp; done) | (go_simp; rfl)) K23.out (by rw [Q5.out]; omega) J23.out.size ?_
    intro v24 w24 hN hb _
    rw [HT6.out] at hN
    obtain ⟨y24, d24, rfl, hrd⟩ := hN.form' q6 Q6.out
    have K24 := Lib.hid hrd
    have J24 := Lib.hid (J23.out.trans hb)
    clear hN hb hrd
    refine hK _ _ J24.out ?_
    go_simp
    (refine h_read 11 rfl (by kernel_rfl) (by kernel_rfl) (h_free rfl) ?_ ?_ ?_; rotate_left; (focus (intro v hv; go_simp; rfl)); go_simp)
    refine h_done (by kernel_rfl) ?_
    obtain ⟨w25, hw25⟩ : ∃ z, z = w24 := ⟨_, rfl⟩
    have X25 := Lib.hid (X14.out.below J24.out X14.out.lt)
    have B25 := Lib.hid (B14.out.trans (J24.out.mono B14.out.size))
    have K25 := K24
    rw [← hw25] at X25 B25 K25 ⊢
    clear hw25 C3 C4 C5
    go_wp2_with fail
    obtain ⟨C0, C1, C2, C3, C4, C5, C6, C7, C8, C9, C10, C11⟩ := X25.out.cm'
    have C6 := Lib.hid C6
    have C7 := Lib.hid C7
    clear C0 C1 C2 C3 C4 C5 C8 C9 C10 C11
    refine region_h (fun v => Below w25.heap.size w25 v) (by kernel_rfl) (by kernel_rfl) (Below.refl _ _).drew ?_
    obtain ⟨w30, hwd⟩ : ∃ wd, w25.drew = wd := ⟨_, rfl⟩
    have J30 : Hid (Below w25.heap.size w25 w30) := Lib.hid (by rw [← hwd]; exact (Below.refl _ _).drew)
    rw [hwd]
    clear hwd
    (refine h_read 0 rfl (by kernel_rfl) (by kernel_rfl) (h_free rfl) ?_ ?_ ?_; rotate_left; (focus (intro v hv; go_simp; rfl)); go_simp)
    (refine h_read 1 rfl (by kernel_rfl) (by kernel_rfl) (h_free rfl) ?_ ?_ ?_; rotate_left; (focus (intro v hv; go_simp; rfl)); go_simp)
    (refine h_read 2 rfl (by kernel_rfl) (by kernel_rfl) (h_free rfl) ?_ ?_ ?_; rotate_left; (focus (intro v hv; have x6 := (hv.cell (p := ⟨w.heap.size, 6, none⟩) X25.out.lt).trans C6.out; have x7 := (hv.cell (p := ⟨w.heap.size, 7, none⟩) X25.out.lt).trans C7.out; go_simp; rfl)); go_simp)
    (refine h_read 4 rfl (by kernel_rfl) (by kernel_rfl) (h_free rfl) ?_ ?_ ?_; rotate_left; (focus (intro v hv; go_simp; rfl)); go_simp)
    (refine h_read 5 rfl (by kernel_rfl) (by kernel_rfl) (h_free rfl) ?_ ?_ ?_; rotate_left; (focus (intro v hv; have x6 := (hv.cell (p := ⟨w.heap.size, 6, none⟩) X25.out.lt).trans C6.out; have x7 := (hv.cell (p := ⟨w.heap.size, 7, none⟩) X25.out.lt).trans C7.out; go_simp; rfl)); go_simp)
    (refine h_call 3 rfl (by kernel_rfl) (h_free rfl) 36 ?_ ?_ ?_; rotate_left; (focus (go_simp; rfl)))
    refine (rtextF y24 q6 d24 sp T6 w30 (K25.out.mono J30.out) (by omega) (by omega) T7 HT7.out q7 Q7.out).mono ?_
    rintro z w31 ⟨y31, d31, rfl, hrd, hb⟩
    skip
    have K31 := Lib.hid hrd
    have J31 := Lib.hid (J30.out.trans (hb.mono J30.out.size))
    clear hrd hb
    refine ⟨_, rfl, J31.out, ?_⟩
    go_simp
    (refine h_call 6 rfl (by kernel_rfl) (h_free rfl) 36 ?_ ?_ ?_; rotate_left; (focus (go_simp; rfl)))
    refine (rtextF y31 q7 d31 nm T7 w31 K31.out (by omega) (by omega) T8 HT8.out q8 Q8.out).mono ?_
    rintro z w32 ⟨y32, d32, rfl, hrd, hb⟩
    skip
    have K32 := Lib.hid hrd
    have J32 := Lib.hid (J31.out.trans (hb.mono J31.out.size))
    clear hrd hb
    refine ⟨_, rfl, J32.out, ?_⟩
    go_simp
    (refine h_read 7 rfl (by kernel_rfl) (by kernel_rfl) (h_free rfl) ?_ ?_ ?_; rotate_left; (focus (intro v hv; go_simp; rfl)); go_simp)
    refine h_done (by kernel_rfl) ?_
    obtain ⟨w33, hw33⟩ : ∃ z, z = w32 := ⟨_, rfl⟩
    have X33 := Lib.hid (X25.out.below J32.out X25.out.lt)
    have B33 := Lib.hid (B25.out.trans (J32.out.mono B25.out.size))
    have K33 := K32
    rw [← hw33] at X33 B33 K33 ⊢
    clear hw33 C6 C7
    go_wp2_with fail
    obtain ⟨C0, C1, C2, C3, C4, C5, C6, C7, C8, C9, C10, C11⟩ := X33.out.cm'
    have C8 := Lib.hid C8
    have C9 := Lib.hid C9
    have C10 := Lib.hid C10
    clear C0 C1 C2 C3 C4 C5 C6 C7 C11
    refine region_h (fun v => Below w33.heap.size w33 v) (by kernel_rfl) (by kernel_rfl) (Below.refl _ _).drew ?_
    obtain ⟨w40, hwd⟩ : ∃ wd, w33.drew = wd := ⟨_, rfl⟩
    have J40 : Hid (Below w33.heap.size w33 w40) := Lib.hid (by rw [← hwd]; exact (Below.refl _ _).drew)
    rw [hwd]
    clear hwd
    (refine h_read 0 rfl (by kernel_rfl) (by kernel_rfl) (h_free rfl) ?_ ?_ ?_; rotate_left; (focus (intro v hv; go_simp; rfl)); go_simp)
    (refine h_read 1 rfl (by kernel_rfl) (by kernel_rfl) (h_free rfl) ?_ ?_ ?_; rotate_left; (focus (intro v hv; go_simp; rfl)); go_simp)
    (refine h_read 2 rfl (by kernel_rfl) (by kernel_rfl) (h_free rfl) ?_ ?_ ?_; rotate_left; (focus (intro v hv; have x8 := (hv.cell (p := ⟨w.heap.size, 8, none⟩) X33.out.lt).trans C8.out; have x9 := (hv.cell (p := ⟨w.heap.size, 9, none⟩) X33.out.lt).trans C9.out; have x10 := (hv.cell (p := ⟨w.heap.size, 10, none⟩) X33.out.lt).trans C10.out; go_simp; rfl)); go_simp)
    (refine h_read 4 rfl (by kernel_rfl) (by kernel_rfl) (h_free rfl) ?_ ?_ ?_; rotate_left; (focus (intro v hv; go_simp; rfl)); go_simp)
    (refine h_read 5 rfl (by kernel_rfl) (by kernel_rfl) (h_free rfl) ?_ ?_ ?_; rotate_left; (focus (intro v hv; have x8 := (hv.cell (p := ⟨w.heap.size, 8, none⟩) X33.out.lt).trans C8.out; have x9 := (hv.cell (p := ⟨w.heap.size, 9, none⟩) X33.out.lt).trans C9.out; have x10 := (hv.cell (p := ⟨w.heap.size, 10, none⟩) X33.out.lt).trans C10.out; go_simp; rfl)); go_simp)
    (refine h_read 7 rfl (by kernel_rfl) (by kernel_rfl) (h_free rfl) ?_ ?_ ?_; rotate_left; (focus (intro v hv; go_simp; rfl)); go_simp)
    (refine h_read 8 rfl (by kernel_rfl) (by kernel_rfl) (h_free rfl) ?_ ?_ ?_; rotate_left; (focus (intro v hv; have x8 := (hv.cell (p := ⟨w.heap.size, 8, none⟩) X33.out.lt).trans C8.out; have x9 := (hv.cell (p := ⟨w.heap.size, 9, none⟩) X33.out.lt).trans C9.out; have x10 := (hv.cell (p := ⟨w.heap.size, 10, none⟩) X33.out.lt).trans C10.out; go_simp; rfl)); go_simp)
    (refine h_call 3 rfl (by kernel_rfl) (h_free rfl) 34 ?_ ?_ ?_; rotate_left; (focus (go_simp; rfl)))
    refine (rnumF y32 q8 d32 nu T8 w40 (K33.out.mono J40.out) I8.out.2 (by omega) T9 HT9.out q9 Q9.out).mono ?_
    rintro z w41 ⟨y41, d41, rfl, hrd, hb⟩
    skip
    have K41 := Lib.hid hrd
    have J41 := Lib.hid (J40.out.trans (hb.mono J40.out.size))
    clear hrd hb
    refine ⟨_, rfl, J41.out, ?_⟩
    go_simp
    (refine h_call 6 rfl (by kernel_rfl) (h_free rfl) 34 ?_ ?_ ?_; rotate_left; (focus (go_simp; rfl)))
    refine (rnumF y41 q9 d41 by1 T9 w41 K41.out I9.out.2 (by omega) T10 HT10.out q10 Q10.out).mono ?_
    rintro z w42 ⟨y42, d42, rfl, hrd, hb⟩
    skip
    have K42 := Lib.hid hrd
    have J42 := Lib.hid (J41.out.trans (hb.mono J41.out.size))
    clear hrd hb
    refine ⟨_, rfl, J42.out, ?_⟩
    go_simp
    (refine h_call 9 rfl (by kernel_rfl) (h_free rfl) 34 ?_ ?_ ?_; rotate_left; (focus (go_simp; rfl)))
    refine (rnumF y42 q10 d42 ti T10 w42 K42.out I10.out.2 (by omega) T11 HT11.out q11 Q11.out).mono ?_
    rintro z w43 ⟨y43, d43, rfl, hrd, hb⟩
    skip
    have K43 := Lib.hid hrd
    have J43 := Lib.hid (J42.out.trans (hb.mono J42.out.size))
    clear hrd hb
    refine ⟨_, rfl, J43.out, ?_⟩
    go_simp
    (refine h_read 10 rfl (by kernel_rfl) (by kernel_rfl) (h_free rfl) ?_ ?_ ?_; rotate_left; (focus (intro v hv; go_simp; rfl)); go_simp)
    refine h_done (by kernel_rfl) ?_
    have X44 := Lib.hid (X33.out.below J43.out X33.out.lt)
    have B44 := Lib.hid (B33.out.trans (J43.out.mono B33.out.size))
    have c11 := X44.out.cm'.c11
    go_wp2_with (first
      | (go_at_call 37; (with_reducible refine (HPP.out y43 d43 w43 B44.out K43.out).mono ?_); rintro z w50 ⟨y50, m50, d50, rfl, hrd, -, hb⟩; have K50 := Lib.hid hrd; have B50 := Lib.hid (B44.out.trans (hb.mono B44.out.size)); clear hrd hb))
    go_ret2
    have K51 := K50.out
    rw [HC.out] at K51
    exact ⟨y50, m50, d50, rfl, K51, by have := K51.hlen; have := HM.out; omega, B50.out⟩
end Go.Proofs.Ytmacjpgeamlmhaa.W
