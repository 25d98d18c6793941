/- CONTRACTS of layer 2 (pack): the reference's reader of numbers. -/
import Derived.Test.YtjolmjbhpokgmaaGreatPackR
set_option linter.unusedSimpArgs false
set_option linter.unusedVariables false
namespace Go.Proofs.YtjolmjbhpokgmaaGreat.W
open Go.ChangeShapes Go.WideShapes Go.ChangeAt Go.RowKit
open Go.Proofs.YtjolmjbhpokgmaaGreat.P (mk lo hi enc tl gr up dec)

set_option maxRecDepth 100000 in
set_option maxHeartbeats 2000000 in
theorem rnumR (p : Nat) (most : Int) (l : List UInt8) (e : Int) (w : World) (h : RR w p l e) :
    Calls Tryz.prog 35 #[.pointer (some ⟨p, 0, none⟩), .int .i64 most] w fun x w' => x = .returned (.int .i64 ((numR most l e).1 : Int)) ∧ RR w' p (numR most l e).2.1 (numR most l e).2.2 ∧ Upd w w' p := by
  have H := Lib.hid h
  obtain ⟨a, cap, c0, c1, f0, f1, hr, hap⟩ := h.cells
  have hsm := h.small
  have hle := hr.hle
  have hmax := hr.hmax
  have HR := Lib.hid hr
  clear hap h hr
  by_cases he : e = 0
  · subst he
    go_enter Tryz.func35, Tryz.ntmps35
    go_wp2
    go_loopw [5, 6] (fun n i wr => (∃ (k acc : Nat), n = .int .i64 acc ∧ i = .int .i64 k ∧ k ≤ 8 ∧ k ≤ l.length ∧ Hid (acc < 128 ^ k) ∧ Hid (dec 9 0 0 l = dec (9 - k) k acc (l.drop k)) ∧ w = wr) ∨
        (∃ (k : Nat) (er : Int), i = .int .i64 k ∧ k ≤ 9 ∧ er ≠ 0 ∧ Hid (numR most l 0 = (0, [], er)) ∧ Hid (RR wr p [] er) ∧ Upd w wr p)) (fun _ i _ => 10 - (intOf i).toNat)
    case atStart => exact .inl ⟨0, 0, rfl, rfl, by omega, by omega, Lib.hid (by decide), Lib.hid rfl, rfl⟩
    case round =>
      rcases hrel with ⟨k, acc, rfl, rfl, hk8, hkl, HA, HD, rfl⟩ | ⟨k, er, rfl, hk9, her, HNR, HRR, hu⟩
      · obtain ⟨f, hf⟩ : ∃ f, 9 - k = f + 1 := ⟨8 - k, by omega⟩
        have hd := HD.out
        rw [hf] at hd
        by_cases hlt : k < l.length
        · obtain ⟨b, off, rfl, -, hc⟩ := HR.out.lt_of (by omega)
          have hc1 := hc k hlt
          have hge : l.getD k 0 = l[k] := by simp [hlt]
          rw [hge] at hc1
          have hdr : l.drop k = l[k] :: l.drop (k + 1) := List.drop_eq_getElem_cons hlt
          rw [hdr] at hd
          generalize l[k] = x at *
          unfold B at hc1
          have hx : (x.toNat : Int) ≤ 255 := by have := x.toNat_lt; omega
          have hacc : (acc : Int) ≤ 72057594037927935 := by
            have h1 := HA.out
            have h2 : 128 ^ k ≤ 128 ^ 8 := Nat.pow_le_pow_right (by omega) hk8
            omega
          have HDR := Lib.hid (H.out.dropped c0 (k + 1) (by omega))
          clear hc hge hdr
          by_cases hk0 : k = 0
          · have e0 : ((k : Int) == 0) = true := by simp; omega
            have cx : w.cell? ⟨b, off, none⟩ = some (.int .u8 (x.toNat : Int)) := by rw [hk0, Nat.add_zero] at hc1; exact hc1
            by_cases hx1 : x.toNat = 128
            · have e1 : ((x.toNat : Int) == 128) = true := by simp; omega
              have ed : dec 9 0 0 l = (0, 0, 3) := by rw [hd]; simp only [dec]; rw [if_pos ⟨by omega, by omega⟩]
              have hn : numR most l 0 = (0, [], 3) := by rw [numR_bad (by rw [ed]; decide), ed]
              have HNR := Lib.hid hn
              have HF := Lib.hid (rfail p l 0 3 w H.out)
              clear hd ed hn
              try clear hk0
              try clear hk8'
              try clear hx1
              go_wp2_with fail
              refine HF.out.mono ?_
              rintro x w1 ⟨rfl, hp, hu⟩
              have HP := Lib.hid hp
              clear hp
              go_wp2_with fail
              go_roundw
              case rel => exact .inr ⟨k + 1, 3, by go_num, by omega, by decide, HNR, HP, hu⟩
              case measure => simp [intOf]; omega
            · have e1 : ((x.toNat : Int) == 128) = false := by simp; omega
              have e8 : ((k : Int) == 8) = false := by simp; omega
              by_cases hx2 : x.toNat < 128
              · have hx3 : (x.toNat : Int) < 128 := by omega
                have ed : dec 9 0 0 l = (acc * 128 + x.toNat % 128, k + 1, 0) := by rw [hd]; simp only [dec]; rw [if_neg (by omega), if_pos (by omega)]
                obtain ⟨y, hy⟩ : ∃ y : Nat, acc * 128 + x.toNat % 128 = y := ⟨_, rfl⟩
                have hyi : (acc : Int) * 128 + (x.toNat : Int) % 128 = (y : Int) := by omega
                rw [hy] at ed
                have HYI := Lib.hid hyi
                have ED := Lib.hid ed
                clear hd ed hy hyi
                try clear hk0
                try clear hk8'
                try clear hx1
                by_cases hcap : cap ≤ k + 1
                all_goals
                  by_cases hlong : most < (acc : Int) * 128 + (x.toNat : Int) % 128
                  all_goals
                    first
                      | rw [if_pos (by omega), show cap - (k + 1) = 0 by omega] at HDR
                      | rw [if_neg (by omega)] at HDR
                    have hlong2 := hlong
                    rw [HYI.out] at hlong2
                    have HLONG := Lib.hid hlong2
                    clear hlong2
                    go_wp2_with fail
                    first
                      | (have hn : numR most l 0 = (0, [], 5) := by rw [numR_long (by rw [ED.out]) (by rw [ED.out]; have hz := HLONG.out; simp only; omega)]
                         have HNR := Lib.hid hn
                         clear hn
                         refine (rfail p _ 0 5 _ HDR.out).mono ?_
                         rintro x w1 ⟨rfl, hp, hu⟩
                         go_wp2_with fail
                         go_ret
                         rw [HNR.out]
                         exact ⟨rfl, hp, (Upd.setCell _ _ _ _).trans hu⟩)
                      | (have hn : numR most l 0 = (y, l.drop (k + 1), 0) := by rw [numR_ok (by rw [ED.out]) (by rw [ED.out]; have hz := HLONG.out; simp only; omega), ED.out]
                         have HNR := Lib.hid hn
                         clear hn
                         go_ret
                         rw [HNR.out]
                         exact ⟨one (vint HYI.out), HDR.out, Upd.setCell _ _ _ _⟩)
              · have hx3 : 128 ≤ (x.toNat : Int) := by omega
                have ed : dec 9 0 0 l = dec (9 - (k + 1)) (k + 1) (acc * 128 + x.toNat % 128) (l.drop (k + 1)) := by
                  rw [hd]; simp only [dec]; rw [if_neg (by omega), if_neg (by omega), show 9 - (k + 1) = f by omega]
                have HD2 := Lib.hid ed
                have HA2 : Hid (acc * 128 + x.toNat % 128 < 128 ^ (k + 1)) := by
                  have h1 := HA.out
                  have : acc * 128 + x.toNat % 128 < 128 ^ (k + 1) := by rw [Nat.pow_succ]; omega
                  exact Lib.hid this
                have hk7 : k ≤ 7 := by omega
                clear hd ed
                try clear hk0
                try clear hk8'
                try clear hx1
                go_wp2_with fail
                go_roundw
                case rel => exact .inl ⟨k + 1, acc * 128 + x.toNat % 128, by go_num, by go_num, by omega, by omega, HA2, HD2, by first | rfl | trivial⟩
                case measure => simp [intOf]; omega
          · have e0 : ((k : Int) == 0) = false := by simp; omega
            by_cases hk8' : k = 8
            · have e8 : ((k : Int) == 8) = true := by simp; omega
              have cx : w.cell? ⟨b, off + 8, none⟩ = some (.int .u8 (x.toNat : Int)) := by rw [hk8'] at hc1; exact hc1
              have hl8 : (8 : Int) < (l.length : Int) := by omega
              by_cases hx2 : x.toNat < 128
              · have hx3 : (x.toNat : Int) < 128 := by omega
                have ed : dec 9 0 0 l = (acc * 128 + x.toNat % 128, k + 1, 0) := by rw [hd]; simp only [dec]; rw [if_neg (by omega), if_pos (by omega)]
                obtain ⟨y, hy⟩ : ∃ y : Nat, acc * 128 + x.toNat % 128 = y := ⟨_, rfl⟩
                have hyi : (acc : Int) * 128 + (x.toNat : Int) % 128 = (y : Int) := by omega
                rw [hy] at ed
                have HYI := Lib.hid hyi
                have ED := Lib.hid ed
                clear hd ed hy hyi
                try clear hk0
                try clear hk8'
                try clear hx1
                by_cases hcap : cap ≤ k + 1
                all_goals
                  by_cases hlong : most < (acc : Int) * 128 + (x.toNat : Int) % 128
                  all_goals
                    first
                      | rw [if_pos (by omega), show cap - (k + 1) = 0 by omega] at HDR
                      | rw [if_neg (by omega)] at HDR
                    have hlong2 := hlong
                    rw [HYI.out] at hlong2
                    have HLONG := Lib.hid hlong2
                    clear hlong2
                    go_wp2_with fail
                    first
                      | (have hn : numR most l 0 = (0, [], 5) := by rw [numR_long (by rw [ED.out]) (by rw [ED.out]; have hz := HLONG.out; simp only; omega)]
                         have HNR := Lib.hid hn
                         clear hn
                         refine (rfail p _ 0 5 _ HDR.out).mono ?_
                         rintro x w1 ⟨rfl, hp, hu⟩
                         go_wp2_with fail
                         go_ret
                         rw [HNR.out]
                         exact ⟨rfl, hp, (Upd.setCell _ _ _ _).trans hu⟩)
                      | (have hn : numR most l 0 = (y, l.drop (k + 1), 0) := by rw [numR_ok (by rw [ED.out]) (by rw [ED.out]; have hz := HLONG.out; simp only; omega), ED.out]
                         have HNR := Lib.hid hn
                         clear hn
                         go_ret
                         rw [HNR.out]
                         exact ⟨one (vint HYI.out), HDR.out, Upd.setCell _ _ _ _⟩)
              · have hx3 : 128 ≤ (x.toNat : Int) := by omega
                have ed : dec 9 0 0 l = (0, 0, 3) := by rw [hd]; simp only [dec]; rw [if_neg (by omega), if_neg (by omega), show f = 0 by omega]; rfl
                have hn : numR most l 0 = (0, [], 3) := by rw [numR_bad (by rw [ed]; decide), ed]
                have HNR := Lib.hid hn
                have HF := Lib.hid (rfail p l 0 3 w H.out)
                clear hd ed hn
                try clear hk0
                try clear hk8'
                try clear hx1
                go_wp2_with fail
                refine HF.out.mono ?_
                rintro x w1 ⟨rfl, hp, hu⟩
                have HP := Lib.hid hp
                clear hp
                go_wp2_with fail
                go_roundw
                case rel => exact .inr ⟨k + 1, 3, by go_num, by omega, by decide, HNR, HP, hu⟩
                case measure => simp [intOf]; omega
            · have e8 : ((k : Int) == 8) = false := by simp; omega
              by_cases hx2 : x.toNat < 128
              · have hx3 : (x.toNat : Int) < 128 := by omega
                have ed : dec 9 0 0 l = (acc * 128 + x.toNat % 128, k + 1, 0) := by rw [hd]; simp only [dec]; rw [if_neg (by omega), if_pos (by omega)]
                obtain ⟨y, hy⟩ : ∃ y : Nat, acc * 128 + x.toNat % 128 = y := ⟨_, rfl⟩
                have hyi : (acc : Int) * 128 + (x.toNat : Int) % 128 = (y : Int) := by omega
                rw [hy] at ed
                have HYI := Lib.hid hyi
                have ED := Lib.hid ed
                clear hd ed hy hyi
                try clear hk0
                try clear hk8'
                try clear hx1
                by_cases hcap : cap ≤ k + 1
                all_goals
                  by_cases hlong : most < (acc : Int) * 128 + (x.toNat : Int) % 128
                  all_goals
                    first
                      | rw [if_pos (by omega), show cap - (k + 1) = 0 by omega] at HDR
                      | rw [if_neg (by omega)] at HDR
                    have hlong2 := hlong
                    rw [HYI.out] at hlong2
                    have HLONG := Lib.hid hlong2
                    clear hlong2
                    go_wp2_with fail
                    first
                      | (have hn : numR most l 0 = (0, [], 5) := by rw [numR_long (by rw [ED.out]) (by rw [ED.out]; have hz := HLONG.out; simp only; omega)]
                         have HNR := Lib.hid hn
                         clear hn
                         refine (rfail p _ 0 5 _ HDR.out).mono ?_
                         rintro x w1 ⟨rfl, hp, hu⟩
                         go_wp2_with fail
                         go_ret
                         rw [HNR.out]
                         exact ⟨rfl, hp, (Upd.setCell _ _ _ _).trans hu⟩)
                      | (have hn : numR most l 0 = (y, l.drop (k + 1), 0) := by rw [numR_ok (by rw [ED.out]) (by rw [ED.out]; have hz := HLONG.out; simp only; omega), ED.out]
                         have HNR := Lib.hid hn
                         clear hn
                         go_ret
                         rw [HNR.out]
                         exact ⟨one (vint HYI.out), HDR.out, Upd.setCell _ _ _ _⟩)
              · have hx3 : 128 ≤ (x.toNat : Int) := by omega
                have ed : dec 9 0 0 l = dec (9 - (k + 1)) (k + 1) (acc * 128 + x.toNat % 128) (l.drop (k + 1)) := by
                  rw [hd]; simp only [dec]; rw [if_neg (by omega), if_neg (by omega), show 9 - (k + 1) = f by omega]
                have HD2 := Lib.hid ed
                have HA2 : Hid (acc * 128 + x.toNat % 128 < 128 ^ (k + 1)) := by
                  have h1 := HA.out
                  have : acc * 128 + x.toNat % 128 < 128 ^ (k + 1) := by rw [Nat.pow_succ]; omega
                  exact Lib.hid this
                have hk7 : k ≤ 7 := by omega
                clear hd ed
                try clear hk0
                try clear hk8'
                try clear hx1
                go_wp2_with fail
                go_roundw
                case rel => exact .inl ⟨k + 1, acc * 128 + x.toNat % 128, by go_num, by go_num, by omega, by omega, HA2, HD2, by first | rfl | trivial⟩
                case measure => simp [intOf]; omega
        · have hkl2 : k = l.length := by omega
          have ed : dec 9 0 0 l = (0, 0, 4) := by
            rw [hd, List.drop_eq_nil_of_le (by omega)]; rfl
          have hn : numR most l 0 = (0, [], 4) := by rw [numR_bad (by rw [ed]; decide), ed]
          have HNR := Lib.hid hn
          have HF := Lib.hid (rfail p l 0 4 w H.out)
          have hge : (l.length : Int) ≤ (k : Int) := by omega
          clear hd ed hn hkl2
          go_wp2_with fail
          refine HF.out.mono ?_
          rintro x w1 ⟨rfl, hp, hu⟩
          have HP := Lib.hid hp
          clear hp
          go_wp2_with fail
          go_roundw
          case rel => exact .inr ⟨k + 1, 4, by go_num, by omega, by decide, HNR, HP, hu⟩
          case measure => simp [intOf]; omega
      · obtain ⟨a2, cap2, d0, d1, g0, g1, -, -⟩ := HRR.out.cells
        have her2 : (er == 0) = false := by simpa using her
        clear c0 c1 f0 f1 d0 g0 g1
        go_wp2_with fail
        go_ret
        rw [HNR.out]
        exact ⟨rfl, HRR.out, hu⟩
  · have he2 : (e == 0) = false := by simpa using he
    rw [numR_err he]
    go_enter Tryz.func35, Tryz.ntmps35
    go_wp2
    go_loopw [5, 6] (fun n i wr => w = wr) (fun _ _ _ => 0)
    case atStart => rfl
    case round =>
      subst hrel
      go_wp2_with fail
      go_ret
      exact ⟨rfl, H.out, Upd.refl _ _⟩

end Go.Proofs.YtjolmjbhpokgmaaGreat.W
