/- LAYER 10 (frame): the program's sumBytes, Seal, head. -/
import Derived.Test.YtfcbndjciojniaaFrS
import Derived.Lib.MinMax
set_option linter.unusedSimpArgs false
set_option linter.unusedVariables false
namespace Go.Proofs.Ytfcbndjciojniaa.W
open Go Go.ChangeShapes Go.WideShapes Go.ChangeAt Go.RowKit
open Go.Proofs.Ytfcbndjciojniaa.P (enc dec)
open Go.Proofs.Ytfcbndjciojniaa.A (more)

set_option maxRecDepth 100000 in
set_option maxHeartbeats 4000000 in
theorem fsum (a : Option Addr) (n c : Nat) (l : List UInt8) (w : World) (hr : Rd w a n c l) :
    Calls Try.prog 54 #[.slice a n c] w fun e w' => ∃ v, e = .returned v ∧ Fr w' w.heap.size v (sum4 (more 1 l)) ∧ Below w.heap.size w w' := by
  have HR := Lib.hid hr
  obtain ⟨M, hM⟩ : ∃ M, more 1 l = M := ⟨_, rfl⟩
  have hM0 : 0 ≤ M := by rw [← hM]; exact (A.wh_rng _ _).1
  have HM := Lib.hid hM
  have HC4 := Lib.hid (sum4_cells M hM0)
  clear hr hM
  rw [HM.out]
  go_enter Try.func54, Try.ntmps54
  go_wp2_with (go_at_call 69; refine (asum a n c l w HR.out).mono ?_; rw [HM.out]; rintro e w2 ⟨rfl, rfl⟩)
  go_ret
  rw [HC4.out]
  exact ⟨_, rfl, Blk.fr (L := sum4 M) (heap_alloc_new w _) (Nat.le_refl _) (by simp [sum4]), (Below.refl _ _).alloc (Nat.le_refl _) _⟩

set_option maxRecDepth 100000 in
set_option maxHeartbeats 4000000 in
theorem fseal_ok (a : Option Addr) (n c : Nat) (l : List UInt8) (w : World) (hr : Rd w a n c l) (hn : n ≤ 262144) :
    Calls Try.prog 31 #[.slice a n c] w fun e w' => ∃ v, e = .returned (.tuple #[v, .int .i64 0]) ∧ Fr w' w.heap.size v (sealF l) ∧ Below w.heap.size w w' := by
  have HR := Lib.hid hr
  have hl := hr.hlen
  obtain ⟨E, hE⟩ : ∃ E, headF l = E := ⟨_, rfl⟩
  have hE2 : enc n ++ l = E := by rw [← hE, headF, hl]
  have HE2 := Lib.hid hE2
  have hen := P.enc_len n (by omega)
  have hel : E.length ≤ 262153 := by
    rw [← hE2, List.length_append]; omega
  obtain ⟨en, hen2⟩ : ∃ en, enc n = en := ⟨_, rfl⟩
  have HEN := Lib.hid hen2
  have HEL := Lib.hid hel
  have HEN9 := Lib.hid (show en.length ≤ 9 by rw [← hen2]; exact hen)
  obtain ⟨M, hM⟩ : ∃ M, sum4 (more 1 E) = M := ⟨_, rfl⟩
  have HM := Lib.hid hM
  have HM4 := Lib.hid (show M.length = 4 by rw [← hM]; rfl)
  have HSF := Lib.hid (show E ++ M = sealF l by rw [← hM, ← hE]; rfl)
  obtain ⟨q, hq⟩ : ∃ q, en.length = q := ⟨_, rfl⟩
  have HQ := Lib.hid hq
  clear hr hl hE hE2 hel hen hen2 hM hq
  go_enter Try.func31, Try.ntmps31
  go_wp2_with (first
    | (go_at_call 53; refine (pnum none 0 0 (n : Int) [] w (Rd_nil w) (by omega) (by decide)).mono ?_; rw [Int.toNat_natCast, HEN.out, HQ.out, List.nil_append]; rintro e w1 ⟨rfl, hk1, hb1, hz1⟩; have F1 : Hid (Fr w1 w.heap.size (.slice (some ⟨w.heap.size, 0, none⟩) (0 + q) (0 + q)) en) := Lib.hid (by have h := Blk.fr hk1 (Nat.le_refl _) (by have := HEN9.out; omega); rw [HQ.out] at h; rw [Nat.zero_add]; exact h); have B1 := Lib.hid hb1; clear hk1 hb1 hz1)
    | (at_builtin; (with_reducible refine append_rd rfl _ _ rfl w.heap.size (.slice (some ⟨w.heap.size, 0, none⟩) (0 + q) (0 + q)) en ?_ F1.out a n c l ?_ (HR.out.mono B1.out) ?_ B1.out.size ?_); (focus (go_simp)); (focus (go_simp)); (focus (have := HEN9.out; omega)); intro v2 w2 hf2 hb2 _; rw [← HEN.out, HE2.out] at hf2; obtain ⟨a2, c2, hv2, hr2⟩ := hf2.form' E.length rfl; subst hv2; have F2 := Lib.hid hf2; have R2 := Lib.hid hr2; have B2 := Lib.hid (B1.out.trans hb2); clear hf2 hr2 hb2)
    | (go_at_call 54; refine (fsum a2 E.length c2 E w2 R2.out).mono ?_; rw [HM.out]; rintro e w3 ⟨v3, rfl, hf3, hb3⟩; obtain ⟨a3, c3, hv3, hr3⟩ := hf3.form' 4 HM4.out; subst hv3; have R3 := Lib.hid hr3; have F3 := Lib.hid (F2.out.kept hb3); have B3 := Lib.hid (B2.out.trans (hb3.mono B2.out.size)); clear hf3 hr3 hb3)
    | (at_builtin; refine append_rd rfl _ _ rfl w.heap.size (.slice a2 E.length c2) E (by go_simp) F3.out a3 4 c3 M (by go_simp) R3.out (by have := HEL.out; omega) B3.out.size ?_; intro v5 w5 hf5 hb5 _; rw [HSF.out] at hf5; have F5 := Lib.hid hf5; have B5 := Lib.hid (B3.out.trans hb5); clear hf5 hb5))
  go_ret2
  exact ⟨_, rfl, F5.out, B5.out⟩
set_option maxRecDepth 100000 in
theorem fseal_long (a : Option Addr) (n c : Nat) (w : World) (hn : 262144 < n) :
    Calls Try.prog 31 #[.slice a n c] w fun e w' => e = .returned (.tuple #[.slice none 0 0, .int .i64 5]) ∧ w = w' := by
  go_enter Try.func31, Try.ntmps31
  go_wp2_with fail
  go_ret2
  exact ⟨rfl, rfl⟩

theorem dec_take : ∀ (f i acc : Nat) (l : List UInt8), dec f i acc (l.take f) = dec f i acc l
  | 0, _, _, _ => rfl
  | f + 1, _, _, [] => rfl
  | f + 1, i, acc, x :: t => by
    rw [List.take_succ_cons]
    unfold P.dec
    rw [dec_take f]
theorem numR9 (most : Int) (l : List UInt8) : (numR most (l.take 9) 0).1 = (numR most l 0).1 ∧ (numR most (l.take 9) 0).2.2 = (numR most l 0).2.2 := by
  have hd9 := dec_take 9 0 0 l
  by_cases hd : (dec 9 0 0 l).2.2 = 0
  · by_cases hm : most < ((dec 9 0 0 l).1 : Int)
    · rw [numR_long hd hm, numR_long (by rw [hd9]; exact hd) (by rw [hd9]; exact hm)]; exact ⟨rfl, rfl⟩
    · rw [numR_ok hd hm, numR_ok (by rw [hd9]; exact hd) (by rw [hd9]; exact hm), hd9]; exact ⟨rfl, rfl⟩
  · rw [numR_bad hd, numR_bad (by rw [hd9]; exact hd), hd9]; exact ⟨rfl, rfl⟩
theorem enc_max : (enc 9223372036854775807).length = 9 := by decide +kernel

set_option maxRecDepth 100000 in
set_option maxHeartbeats 4000000 in
theorem fhead (a : Option Addr) (len cap : Nat) (b : List UInt8) (w : World) (hr : Rd w a len cap b) (n : Nat) (e : Int) (hn : (numR 262144 b 0).1 = n) (he : (numR 262144 b 0).2.2 = e) (hmax : len ≤ 140737488355000) :
    Calls Try.prog 57 #[.slice a len cap] w fun y w' => y = .returned (.tuple #[.int .i64 (n : Int), .int .i64 ((enc n).length : Int), .int .i64 e]) ∧ Below w.heap.size w w' := by
  have HR := Lib.hid hr
  have hcap := hr.hle
  obtain ⟨k, hk⟩ : ∃ k : Nat, min (len : Int) 9 = k := ⟨(min (len : Int) 9).toNat, by omega⟩
  have hkl : k ≤ len := by omega
  have hkc : k ≤ cap := by omega
  obtain ⟨b9, hb9⟩ : ∃ b9, b.take k = b9 := ⟨_, rfl⟩
  have hb9' : b9 = b.take 9 := by
    rw [← hb9]
    by_cases h9 : len ≤ 9
    · have : k = len := by omega
      rw [this, List.take_of_length_le (Nat.le_of_eq hr.hlen), List.take_of_length_le (by rw [hr.hlen]; exact h9)]
    · have : k = 9 := by omega
      rw [this]
  have h9 := numR9 262144 b
  rw [← hb9', hn, he] at h9
  have R9 : Hid (Rd w a k cap b9) := Lib.hid (by rw [← hb9]; exact hr.first k hkl)
  obtain ⟨x, r, y, hx⟩ : ∃ x r y, numR 262144 b9 0 = (x, r, y) := ⟨_, _, _, rfl⟩
  rw [hx] at h9
  obtain ⟨rfl, rfl⟩ := h9
  have HX := Lib.hid hx
  have hxl := numR_lt 262144 b9 0
  rw [hx] at hxl
  have HEM := Lib.hid enc_max
  have hk9 : k ≤ 9 := by omega
  obtain ⟨z, hz⟩ : ∃ z, (enc x).length = z := ⟨_, rfl⟩
  have HZ := Lib.hid hz
  rw [hz]
  have HKK := Lib.hid hk
  clear hr hn he hb9 hb9' hx hz
  go_enter Try.func57, Try.ntmps57
  go_wp2_with (first
    | (go_at_call 67; (with_reducible refine (psize 9223372036854775807 w (by decide)).mono ?_); rw [show (9223372036854775807 : Int).toNat = 9223372036854775807 from rfl, HEM.out]; rintro e w1 ⟨rfl, rfl⟩)
    | (go_at_call 72; refine (popen a k cap b9 w R9.out (by omega)).mono ?_; rintro e w1 ⟨p, rfl, hp, hrr, hb1⟩; have P1 := Lib.hid hrr; have PL := Lib.hid hp; have B1 := Lib.hid hb1; clear hrr hp hb1)
    | (go_at_call 73; refine (pnumR p 262144 b9 0 w1 P1.out).mono ?_; rw [HX.out]; dsimp only; rintro e w2 ⟨rfl, hrr, hu⟩; have P2 := Lib.hid hrr; have B2 := Lib.hid (B1.out.trans (hu.below PL.out)); clear hrr hu)
    | (go_at_call 67; (with_reducible refine (psize (x : Int) w2 ?_).mono ?_); (focus (exact hxl)); rw [Int.toNat_natCast, HZ.out]; rintro e w1 ⟨rfl, rfl⟩)
    | (go_at_call 74; refine (perr p r y w2 P2.out).mono ?_; rintro e wq ⟨rfl, rfl⟩))
  go_ret3
  exact ⟨rfl, B2.out⟩
end Go.Proofs.Ytfcbndjciojniaa.W
