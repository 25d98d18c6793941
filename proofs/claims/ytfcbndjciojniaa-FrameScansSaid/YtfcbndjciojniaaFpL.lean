/- LAYER 10 (frame): the laws FrameSeals, FrameNext. -/
import Derived.Test.YtfcbndjciojniaaFpS
import Derived.Lib.SlBytesConst
set_option linter.unusedSimpArgs false
set_option linter.unusedVariables false
namespace Go.Proofs.Ytfcbndjciojniaa.W
open Go Go.ChangeShapes Go.WideShapes Go.ChangeAt Go.RowKit
open Go.Proofs.Ytfcbndjciojniaa.P (enc dec)
open Go.Proofs.Ytfcbndjciojniaa.A (more)

theorem seal_a : sealF [97] = [1, 97, 0, 101, 0, 99] := by decide +kernel
set_option maxRecDepth 100000 in
set_option maxHeartbeats 4000000 in
theorem awake10 (w : World) : Calls Try.prog 30 #[] w fun e w' => e = .returned (.bool true) ∧ Below w.heap.size w w' := by
  have SA := Lib.hid seal_a
  have kc := fun (w : World) (C : Array Value) (n c : Nat) => Lib.run_convert_bytes_const (P := Try.prog) w 30 5 C n c Try.underlying30 Try.underlying5
  go_enter Try.func30, Try.ntmps30
  go_wp2_with (first
    | (go_at_call 31; refine (fseal_ok _ 1 1 [97] _ (rd_made w [97] _ _ _ rfl (by decide)) (by decide)).mono ?_; rw [SA.out]; rintro e w2 ⟨v2, rfl, hf2, hb2⟩; obtain ⟨a2, c2, hv2, hr2⟩ := hf2.form' 6 rfl; subst hv2; have R2 := Lib.hid hr2; have B2 := Lib.hid (((Below.refl w.heap.size w).alloc (Nat.le_refl _) _).trans (hb2.mono (by simp))); clear hf2 hr2 hb2)
    | (go_at_call 23; refine (sequal a2 _ 6 6 c2 6 [1, 97, 0, 101, 0, 99] [1, 97, 0, 101, 0, 99] _ (R2.out.mono ((Below.refl _ w2).alloc (Nat.le_refl _) _)) (rd_made w2 [1, 97, 0, 101, 0, 99] _ _ _ rfl (by decide))).mono ?_; rintro e w3 ⟨rfl, hq3⟩; have B3 := Lib.hid ((B2.out.alloc B2.out.size _).trans (hq3.below w.heap.size)); clear hq3))
  go_ret
  exact ⟨by simp, B3.out⟩

set_option maxRecDepth 100000 in
set_option maxHeartbeats 4000000 in
theorem law_FrameNext (a : Option Addr) (m c : Nat) (zs : List Int) (w : World) (w0 : IsRow .u8 w a m c zs) :
    Calls Try.prog 9 #[.slice a m c] w fun e w' => e = .returned (.bool true) ∧ Below w.heap.size w w' := by
  have HR := Lib.hid (Rd.of_row w0)
  obtain ⟨l, hl⟩ : ∃ l, ((zs.take m).map fun n => UInt8.ofNat n.toNat) = l := ⟨_, rfl⟩
  rw [hl] at HR
  clear w0 hl
  by_cases h4 : (4000 : Int) < m
  · go_enter Try.func9, Try.ntmps9
    go_wp2_with (go_at_call 30; refine (awake10 w).mono ?_; rintro e w9 ⟨rfl, hb9⟩; have B9 := Lib.hid hb9; clear hb9)
    go_ret
    exact ⟨rfl, B9.out⟩
  · obtain ⟨x, k, e1, hx⟩ : ∃ x k e1, nextF l = (x, k, e1) := ⟨_, _, _, rfl⟩
    have HX := Lib.hid hx
    obtain ⟨xl, hxl⟩ : ∃ xl, x.length = xl := ⟨_, rfl⟩
    have HXL := Lib.hid hxl
    clear hx hxl
    go_enter Try.func9, Try.ntmps9
    go_wp2_with (first
      | (go_at_call 33; refine (fnext_any a m c l w HR.out (by omega) x k e1 HX.out).mono ?_; rintro e w1 ⟨v1, rfl, hf1, hb1⟩; obtain ⟨a1, c1, hv1, hr1⟩ := hf1.form' xl HXL.out; subst hv1; have R1 := Lib.hid hr1; have B1 := Lib.hid hb1; clear hf1 hr1 hb1)
      | (go_at_call 34; refine (unext_any a m c l w1 (HR.out.mono B1.out) (by omega) x k e1 HX.out).mono ?_; rintro e w2 ⟨v2, rfl, hf2, hb2⟩; obtain ⟨a2, c2, hv2, hr2⟩ := hf2.form' xl HXL.out; subst hv2; have R2 := Lib.hid hr2; have Q2 := Lib.hid (R1.out.mono hb2); have B2 := Lib.hid (B1.out.trans (hb2.mono B1.out.size)); clear hf2 hr2 hb2)
      | (go_at_call 23; refine (sequal a1 a2 xl xl c1 c2 x x w2 Q2.out R2.out).mono ?_; rintro e w3 ⟨rfl, hq3⟩; have B3 := Lib.hid (B2.out.trans (hq3.below w.heap.size)); clear hq3)
      | (go_at_call 30; refine (awake10 w3).mono ?_; rintro e w9 ⟨rfl, hb9⟩; have B9 := Lib.hid (B3.out.trans (hb9.mono B3.out.size)); clear hb9))
    go_ret
    exact ⟨by simp, B9.out⟩

set_option maxRecDepth 100000 in
set_option maxHeartbeats 4000000 in
theorem law_FrameSeals (a : Option Addr) (m c : Nat) (zs : List Int) (n : Int) (w : World) (w0 : IsRow .u8 w a m c zs) (w1 : (Lit.int .i64 n).wf = true) :
    Calls Try.prog 8 #[.slice a m c, .int .i64 n] w fun e w' => e = .returned (.bool true) ∧ Below w.heap.size w w' := by
  have hn := bd w1
  have HR := Lib.hid (Rd.of_row w0)
  obtain ⟨l, hl⟩ : ∃ l, ((zs.take m).map fun n => UInt8.ofNat n.toNat) = l := ⟨_, rfl⟩
  rw [hl] at HR
  clear w0 w1 hl
  by_cases hbig : 262144 < n ∧ n < 262244
  · obtain ⟨h1, h2⟩ := hbig
    obtain ⟨k, hk⟩ : ∃ k : Nat, n = k := ⟨n.toNat, by omega⟩
    have HK := Lib.hid hk
    have HKB := Lib.hid (show 262144 < k ∧ k ≤ 262244 by omega)
    clear hk
    go_enter Try.func8, Try.ntmps8
    go_wp2_with (first
      | (at_make; refine make_blk rfl _ _ rfl n k (by go_simp) (by go_simp) HK.out (by have := HKB.out; omega) ?_; intro w1 hk1 hb1 hz1; have B1 := Lib.hid hb1; clear hk1 hb1 hz1; have hkl : ¬ (262244 : Int) < k := (by have := HKB.out; omega); clear h1 h2)
      | (go_at_call 31; refine (fseal_long _ k k w1 HKB.out.1).mono ?_; rintro e w2 ⟨rfl, rfl⟩)
      | (go_at_call 32; refine (useal_long _ k k w1 HKB.out.1).mono ?_; rintro e w2 ⟨rfl, rfl⟩)
      | (go_at_call 23; refine (sequal none none 0 0 0 0 [] [] w1 (Rd_nil _) (Rd_nil _)).mono ?_; rintro e w3 ⟨rfl, hq3⟩; have B3 := Lib.hid (B1.out.trans (hq3.below w.heap.size)); clear hq3)
      | (go_at_call 30; refine (awake10 w3).mono ?_; rintro e w9 ⟨rfl, hb9⟩; have B9 := Lib.hid (B3.out.trans (hb9.mono B3.out.size)); clear hb9))
    go_ret
    exact ⟨by simp, B9.out⟩
  · by_cases hm : (262244 : Int) < m
    · by_cases h1 : 262144 < n
      all_goals
        first | (have h2 : ¬ n < 262244 := fun h => hbig ⟨h1, h⟩) | skip
        clear hbig
        go_enter Try.func8, Try.ntmps8
        go_wp2_with (go_at_call 30; refine (awake10 w).mono ?_; rintro e w9 ⟨rfl, hb9⟩; have B9 := Lib.hid hb9; clear hb9)
        go_ret
        exact ⟨rfl, B9.out⟩
    · by_cases hs : m ≤ 262144
      · obtain ⟨F, hF⟩ : ∃ F, sealF l = F := ⟨_, rfl⟩
        have HF := Lib.hid hF
        obtain ⟨fl, hfl⟩ : ∃ fl, F.length = fl := ⟨_, rfl⟩
        have HFL := Lib.hid hfl
        clear hF hfl
        by_cases h1 : 262144 < n
        all_goals
          first | (have h2 : ¬ n < 262244 := fun h => hbig ⟨h1, h⟩) | skip
          clear hbig
          go_enter Try.func8, Try.ntmps8
          go_wp2_with (first
            | (go_at_call 31; refine (fseal_ok a m c l w HR.out hs).mono ?_; rw [HF.out]; rintro e w1 ⟨v1, rfl, hf1, hb1⟩; obtain ⟨a1, c1, hv1, hr1⟩ := hf1.form' fl HFL.out; subst hv1; have R1 := Lib.hid hr1; have B1 := Lib.hid hb1; clear hf1 hr1 hb1)
            | (go_at_call 32; refine (useal_ok a m c l w1 (HR.out.mono B1.out) hs).mono ?_; rw [HF.out]; rintro e w2 ⟨v2, rfl, hf2, hb2⟩; obtain ⟨a2, c2, hv2, hr2⟩ := hf2.form' fl HFL.out; subst hv2; have R2 := Lib.hid hr2; have Q2 := Lib.hid (R1.out.mono hb2); have B2 := Lib.hid (B1.out.trans (hb2.mono B1.out.size)); clear hf2 hr2 hb2)
            | (go_at_call 23; refine (sequal a1 a2 fl fl c1 c2 F F w2 Q2.out R2.out).mono ?_; rintro e w3 ⟨rfl, hq3⟩; have B3 := Lib.hid (B2.out.trans (hq3.below w.heap.size)); clear hq3)
            | (go_at_call 30; refine (awake10 w3).mono ?_; rintro e w9 ⟨rfl, hb9⟩; have B9 := Lib.hid (B3.out.trans (hb9.mono B3.out.size)); clear hb9))
          go_ret
          exact ⟨by simp, B9.out⟩
      · have hs2 : 262144 < m := by omega
        by_cases h1 : 262144 < n
        all_goals
          first | (have h2 : ¬ n < 262244 := fun h => hbig ⟨h1, h⟩) | skip
          clear hbig
          go_enter Try.func8, Try.ntmps8
          go_wp2_with (first
            | (go_at_call 31; refine (fseal_long a m c w hs2).mono ?_; rintro e w2 ⟨rfl, rfl⟩)
            | (go_at_call 32; refine (useal_long a m c w hs2).mono ?_; rintro e w2 ⟨rfl, rfl⟩)
            | (go_at_call 23; refine (sequal none none 0 0 0 0 [] [] w (Rd_nil _) (Rd_nil _)).mono ?_; rintro e w3 ⟨rfl, hq3⟩; have B3 := Lib.hid (hq3.below w.heap.size); clear hq3)
            | (go_at_call 30; refine (awake10 w3).mono ?_; rintro e w9 ⟨rfl, hb9⟩; have B9 := Lib.hid (B3.out.trans (hb9.mono B3.out.size)); clear hb9))
          go_ret
          exact ⟨by simp, B9.out⟩
end Go.Proofs.Ytfcbndjciojniaa.W
