/- CONTRACTS of layer 5 (adler) and of its reference. -/
import Derived.Test.YtfcbndjciojniaaMem
import Derived.Test.YtfcbndjciojniaaAdlP
import Derived.Lib.SlBytesConst
set_option linter.unusedSimpArgs false
set_option linter.unusedVariables false
namespace Go.Proofs.Ytfcbndjciojniaa.W
open Go.ChangeShapes Go.WideShapes Go.ChangeAt Go.RowKit
open Go.Proofs.Ytfcbndjciojniaa.A

theorem ahalves (s : Int) (w : World) (h0 : 0 ≤ s) (h1 : s ≤ 4294967295) :
    Calls Try.prog 86 #[.int .u32 s] w fun e w' => e = .returned (.tuple #[.int .i64 (lo s), .int .i64 (hi s)]) ∧ w = w' := by
  have e : bits .and .u32 s 65535 = s % 65536 := by
    obtain ⟨n, rfl⟩ : ∃ n : Nat, s = (n : Int) := ⟨s.toNat, by omega⟩
    rw [show (65535 : Int) = ((65535 : Nat) : Int) from rfl, u32_and_nat _ _ (by omega) (by omega), show (65535 : Nat) = 2 ^ 16 - 1 from rfl, Nat.and_two_pow_sub_one_eq_mod]
    rfl
  have e1 : 0 ≤ bits .and .u32 s 65535 := by omega
  have e2 : bits .and .u32 s 65535 ≤ 65535 := by omega
  have E := Lib.hid e
  clear e
  go_enter Try.func86, Try.ntmps86
  go_wp2
  all_goals
    go_ret2
    refine ⟨?_, rfl⟩
    refine tup2 ?_ rfl
    unfold lo
    rw [← E.out]
    rfl

theorem tmod_as (l : Int) : -65520 ≤ l.tmod 65521 ∧ l.tmod 65521 ≤ 65520 ∧ ((l.tmod 65521 < 0 ∧ l % 65521 = l.tmod 65521 + 65521) ∨ (0 ≤ l.tmod 65521 ∧ l % 65521 = l.tmod 65521)) := by
  rcases Int.lt_or_le l 0 with h | h
  · obtain ⟨m, rfl⟩ : ∃ m : Int, l = -m := ⟨-l, by omega⟩
    rw [Int.neg_tmod, Int.tmod_eq_emod_of_nonneg (by omega)]
    omega
  · rw [Int.tmod_eq_emod_of_nonneg h]
    omega

theorem amodulo (n : Int) (w : World) (_h0 : -4611686018427387904 ≤ n) (_h1 : n ≤ 4611686018427387904) :
    Calls Try.prog 88 #[.int .i64 n] w fun e w' => e = .returned (.int .i64 (n % 65521)) ∧ w = w' := by
  obtain ⟨t1, t2, t3⟩ := tmod_as n
  go_enter Try.func88, Try.ntmps88
  go_wp2
  all_goals
    go_ret
    exact ⟨by go_num, rfl⟩


theorem or_join (h l : Int) (h0 : 0 ≤ h) (h1 : h ≤ 65535) (l0 : 0 ≤ l) (l1 : l ≤ 65535) : bits .or .u32 (h * 65536) l = h * 65536 + l := by
  obtain ⟨n, rfl⟩ : ∃ n : Nat, h = (n : Int) := ⟨h.toNat, by omega⟩
  obtain ⟨m, rfl⟩ : ∃ m : Nat, l = (m : Int) := ⟨l.toNat, by omega⟩
  rw [show (n : Int) * 65536 = ((n * 65536 : Nat) : Int) by omega, u32_or_nat _ _ (by omega) (by omega), nat_join 16 _ _ (by omega) (by omega)]
  omega
theorem awhole (l h : Int) (w : World) (h0 : -4611686018427387904 ≤ l) (h1 : l ≤ 4611686018427387904) (h2 : -4611686018427387904 ≤ h) (h3 : h ≤ 4611686018427387904) :
    Calls Try.prog 87 #[.int .i64 l, .int .i64 h] w fun e w' => e = .returned (.int .u32 (wh l h)) ∧ w = w' := by
  go_enter Try.func87, Try.ntmps87
  go_wp2_with (go_at_call 88; refine (amodulo _ _ (by omega) (by omega)).mono ?_; rintro e w' ⟨rfl, rfl⟩)
  all_goals
    go_ret
    exact ⟨by unfold wh; rw [← or_join _ _ (by omega) (by omega) (by omega) (by omega)]; rfl, rfl⟩

theorem qlow (s : Int) (w : World) (h0 : 0 ≤ s) (h1 : s ≤ 4294967295) :
    Calls Try.prog 80 #[.int .u32 s] w fun e w' => e = .returned (.int .i64 (lo s)) ∧ w = w' := by
  go_enter Try.func80, Try.ntmps80
  go_wp2
  all_goals
    go_ret
    exact ⟨by unfold lo; go_num, rfl⟩
theorem qhigh (s : Int) (w : World) (h0 : 0 ≤ s) (h1 : s ≤ 4294967295) :
    Calls Try.prog 81 #[.int .u32 s] w fun e w' => e = .returned (.int .i64 (hi s)) ∧ w = w' := by
  go_enter Try.func81, Try.ntmps81
  go_wp2
  all_goals
    go_ret
    exact ⟨by unfold hi; go_num, rfl⟩
theorem qof (l h : Int) (w : World) (_h0 : -4611686018427387904 ≤ l) (_h1 : l ≤ 4611686018427387904) (_h2 : -4611686018427387904 ≤ h) (_h3 : h ≤ 4611686018427387904) :
    Calls Try.prog 82 #[.int .i64 l, .int .i64 h] w fun e w' => e = .returned (.int .u32 (wh l h)) ∧ w = w' := by
  obtain ⟨t1, t2, t3⟩ := tmod_as l
  obtain ⟨u1, u2, u3⟩ := tmod_as h
  go_enter Try.func82, Try.ntmps82
  go_wp2
  all_goals
    go_ret
    exact ⟨by unfold wh; go_num, rfl⟩

set_option maxHeartbeats 1000000 in
theorem amore (s : Int) (a : Option Addr) (len cap : Nat) (l : List UInt8) (w : World) (h0 : 0 ≤ s) (h1 : s ≤ 4294967295) (hr : Rd w a len cap l) :
    Calls Try.prog 78 #[.int .u32 s, .slice a len cap] w fun e w' => e = .returned (.int .u32 (more s l)) ∧ w = w' := by
  obtain ⟨hl, hle, hmax, hnil, hc⟩ := hr
  obtain ⟨X, hX⟩ : ∃ X, lo s = X := ⟨_, rfl⟩
  obtain ⟨Y, hY⟩ : ∃ Y, hi s = Y := ⟨_, rfl⟩
  have rX := lo_rng s
  have rY := hi_rng s
  rw [hX] at rX
  rw [hY] at rY
  obtain ⟨x1, x2⟩ := rX
  obtain ⟨y1, y2⟩ := rY
  have hR : more s l = wh (adl X Y l).1 (adl X Y l).2 := by unfold more; rw [hX, hY]
  rw [hR]
  clear hR
  by_cases hn : len = 0
  · subst hn
    have : l = [] := List.eq_nil_of_length_eq_zero hl
    subst this
    clear hc hl hmax hle hnil
    have HX := Lib.hid hX
    have HY := Lib.hid hY
    clear hX hY
    go_enter Try.func78, Try.ntmps78
    go_wp2_with (go_at_call 86; refine (ahalves _ _ h0 h1).mono ?_; rintro e w' ⟨rfl, rfl⟩)
    first | rw [HX.out, HY.out] | skip
    go_wp2_with fail
    go_loop [5, 6, 16] (fun x y i => x = .int .i64 X ∧ y = .int .i64 Y ∧ i = .int .i64 0) (fun _ _ _ => 0)
    case atStart => exact ⟨by first | rfl | (rw [HX.out]), by first | rfl | (rw [HY.out]), rfl⟩
    case round =>
      obtain ⟨rfl, rfl, rfl⟩ := hrel
      go_wp2_with (go_at_call 87; refine (awhole _ _ _ (by omega) (by omega) (by omega) (by omega)).mono ?_; rintro e w' ⟨rfl, rfl⟩)
      go_ret
      exact ⟨rfl, rfl⟩
  · obtain ⟨b, off, rfl, hlt0, hcell⟩ := hc.resolve_left hn
    clear hlt0 hnil
    have HC := Lib.hid hcell
    have HL := Lib.hid hl
    have HX := Lib.hid hX
    have HY := Lib.hid hY
    have HB := Lib.hid (adl_rng l X Y ⟨x1, x2⟩ ⟨y1, y2⟩)
    clear hcell hc hl hX hY
    go_enter Try.func78, Try.ntmps78
    go_wp2_with (go_at_call 86; refine (ahalves _ _ h0 h1).mono ?_; rintro e w' ⟨rfl, rfl⟩)
    first | rw [HX.out, HY.out] | skip
    go_wp2_with fail
    go_loop [5, 6, 16] (fun x y i => ∃ (k : Nat) (x' y' : Int), k ≤ len ∧ i = .int .i64 k ∧ x = .int .i64 x' ∧ y = .int .i64 y' ∧ 0 ≤ x' ∧ x' ≤ 65520 ∧ 0 ≤ y' ∧ y' ≤ 65520 ∧ Hid (adl X Y l = adl x' y' (l.drop k))) (fun _ _ i => len - (intOf i).toNat)
    case atStart => exact ⟨0, X, Y, Nat.zero_le _, rfl, by first | rfl | (rw [HX.out]), by first | rfl | (rw [HY.out]), by omega, by omega, by omega, by omega, Lib.hid rfl⟩
    case round =>
      obtain ⟨k, x', y', hk, rfl, rfl, rfl, a1, a2, b1, b2, HS⟩ := hrel
      by_cases hlt : k < len
      · have hcell : _ = some (Value.int .u8 ((l.getD k 0).toNat : Int)) := HC.out k hlt
        have hs := HS.out.trans (adl_drop x' y' l k (by rw [HL.out]; exact hlt))
        have hz := (l.getD k 0).toNat_lt
        obtain ⟨z, hz'⟩ : ∃ z : Nat, (l.getD k 0).toNat = z := ⟨_, rfl⟩
        rw [hz'] at hcell hs hz
        have HS' := Lib.hid hs
        clear hs hz' HS
        go_wp2_with fail
        go_round
        case rel => exact ⟨k + 1, (x' + z) % 65521, (y' + (x' + z) % 65521) % 65521, by omega, by go_num, by go_num, by go_num, by omega, by omega, by omega, by omega, HS'⟩
        case measure => simp [intOf]; omega
      · obtain rfl : k = len := by omega
        have e : l.drop k = [] := List.drop_eq_nil_of_le (by rw [HL.out]; omega)
        have hs := HS.out
        rw [e] at hs
        have HS' := Lib.hid hs
        clear hs e HS
        go_wp2_with (go_at_call 87; refine (awhole _ _ _ (by omega) (by omega) (by omega) (by omega)).mono ?_; rintro e w' ⟨rfl, rfl⟩)
        go_ret
        exact ⟨by rw [HS'.out]; rfl, rfl⟩

set_option maxHeartbeats 1000000 in
theorem qmore (s : Int) (a : Option Addr) (len cap : Nat) (l : List UInt8) (w : World) (h0 : 0 ≤ s) (h1 : s ≤ 4294967295) (hr : Rd w a len cap l) :
    Calls Try.prog 71 #[.int .u32 s, .slice a len cap] w fun e w' => e = .returned (.int .u32 (more s l)) ∧ w = w' := by
  obtain ⟨hl, hle, hmax, hnil, hc⟩ := hr
  obtain ⟨X, hX⟩ : ∃ X, lo s = X := ⟨_, rfl⟩
  obtain ⟨Y, hY⟩ : ∃ Y, hi s = Y := ⟨_, rfl⟩
  have rX := lo_rng s
  have rY := hi_rng s
  rw [hX] at rX
  rw [hY] at rY
  obtain ⟨x1, x2⟩ := rX
  obtain ⟨y1, y2⟩ := rY
  have hR : more s l = wh (adl X Y l).1 (adl X Y l).2 := by unfold more; rw [hX, hY]
  rw [hR]
  clear hR
  by_cases hn : len = 0
  · subst hn
    have : l = [] := List.eq_nil_of_length_eq_zero hl
    subst this
    clear hc hl hmax hle hnil
    have HX := Lib.hid hX
    have HY := Lib.hid hY
    clear hX hY
    go_enter Try.func71, Try.ntmps71
    go_wp2_with (first | (go_at_call 80; refine (qlow _ _ h0 h1).mono ?_; rintro e w' ⟨rfl, rfl⟩) | (go_at_call 81; refine (qhigh _ _ h0 h1).mono ?_; rintro e w' ⟨rfl, rfl⟩))
    first | rw [HX.out, HY.out] | skip
    go_wp2_with fail
    go_loop [5, 6, 7] (fun x y i => x = .int .i64 X ∧ y = .int .i64 Y ∧ i = .int .i64 0) (fun _ _ _ => 0)
    case atStart => exact ⟨by first | rfl | (rw [HX.out]), by first | rfl | (rw [HY.out]), rfl⟩
    case round =>
      obtain ⟨rfl, rfl, rfl⟩ := hrel
      go_wp2_with (go_at_call 82; refine (qof _ _ _ (by omega) (by omega) (by omega) (by omega)).mono ?_; rintro e w' ⟨rfl, rfl⟩)
      go_ret
      exact ⟨rfl, rfl⟩
  · obtain ⟨b, off, rfl, hlt0, hcell⟩ := hc.resolve_left hn
    clear hlt0 hnil
    have HC := Lib.hid hcell
    have HL := Lib.hid hl
    have HX := Lib.hid hX
    have HY := Lib.hid hY
    have HB := Lib.hid (adl_rng l X Y ⟨x1, x2⟩ ⟨y1, y2⟩)
    clear hcell hc hl hX hY
    go_enter Try.func71, Try.ntmps71
    go_wp2_with (first | (go_at_call 80; refine (qlow _ _ h0 h1).mono ?_; rintro e w' ⟨rfl, rfl⟩) | (go_at_call 81; refine (qhigh _ _ h0 h1).mono ?_; rintro e w' ⟨rfl, rfl⟩))
    first | rw [HX.out, HY.out] | skip
    go_wp2_with fail
    go_loop [5, 6, 7] (fun x y i => ∃ (k : Nat) (x' y' : Int), k ≤ len ∧ i = .int .i64 k ∧ x = .int .i64 x' ∧ y = .int .i64 y' ∧ 0 ≤ x' ∧ x' ≤ 65520 ∧ 0 ≤ y' ∧ y' ≤ 65520 ∧ Hid (adl X Y l = adl x' y' (l.drop k))) (fun _ _ i => len - (intOf i).toNat)
    case atStart => exact ⟨0, X, Y, Nat.zero_le _, rfl, by first | rfl | (rw [HX.out]), by first | rfl | (rw [HY.out]), by omega, by omega, by omega, by omega, Lib.hid rfl⟩
    case round =>
      obtain ⟨k, x', y', hk, rfl, rfl, rfl, a1, a2, b1, b2, HS⟩ := hrel
      by_cases hlt : k < len
      · have hcell : _ = some (Value.int .u8 ((l.getD k 0).toNat : Int)) := HC.out k hlt
        have hs := HS.out.trans (adl_drop x' y' l k (by rw [HL.out]; exact hlt))
        have hz := (l.getD k 0).toNat_lt
        obtain ⟨z, hz'⟩ : ∃ z : Nat, (l.getD k 0).toNat = z := ⟨_, rfl⟩
        rw [hz'] at hcell hs hz
        have HS' := Lib.hid hs
        clear hs hz' HS
        go_wp2_with fail
        go_round
        case rel => exact ⟨k + 1, (x' + z) % 65521, (y' + (x' + z) % 65521) % 65521, by omega, by go_num, by go_num, by go_num, by omega, by omega, by omega, by omega, HS'⟩
        case measure => simp [intOf]; omega
      · obtain rfl : k = len := by omega
        have e : l.drop k = [] := List.drop_eq_nil_of_le (by rw [HL.out]; omega)
        have hs := HS.out
        rw [e] at hs
        have HS' := Lib.hid hs
        clear hs e HS
        go_wp2_with (go_at_call 82; refine (qof _ _ _ (by omega) (by omega) (by omega) (by omega)).mono ?_; rintro e w' ⟨rfl, rfl⟩)
        go_ret
        exact ⟨by rw [HS'.out]; rfl, rfl⟩

theorem asum (a : Option Addr) (len cap : Nat) (l : List UInt8) (w : World) (hr : Rd w a len cap l) :
    Calls Try.prog 69 #[.slice a len cap] w fun e w' => e = .returned (.int .u32 (more 1 l)) ∧ w = w' := by
  have HR := Lib.hid hr
  clear hr
  go_enter Try.func69, Try.ntmps69
  go_wp2_with (go_at_call 78; refine (amore _ _ _ _ _ _ (by omega) (by omega) HR.out).mono ?_; rintro e w' ⟨rfl, rfl⟩)
  go_ret
  exact ⟨rfl, rfl⟩

theorem qsum (a : Option Addr) (len cap : Nat) (l : List UInt8) (w : World) (hr : Rd w a len cap l) :
    Calls Try.prog 56 #[.slice a len cap] w fun e w' => e = .returned (.int .u32 (more 1 l)) ∧ w = w' := by
  have HR := Lib.hid hr
  clear hr
  go_enter Try.func56, Try.ntmps56
  go_wp2_with (go_at_call 71; refine (qmore _ _ _ _ _ _ (by omega) (by omega) HR.out).mono ?_; rintro e w' ⟨rfl, rfl⟩)
  go_ret
  exact ⟨rfl, rfl⟩

theorem prod_rng {a b : Int} (h1 : 0 ≤ a) (h2 : a ≤ 65520) (h3 : -1 ≤ b) (h4 : b ≤ 65520) : -65520 ≤ a * b ∧ a * b ≤ 4292870400 := by
  constructor
  · rcases Int.lt_or_le b 0 with h | h
    · obtain rfl : b = -1 := by omega
      omega
    · have := Int.mul_nonneg h1 h; omega
  · rcases Int.lt_or_le b 0 with h | h
    · obtain rfl : b = -1 := by omega
      omega
    · have := Int.mul_le_mul h2 h4 h (by omega); omega





/-- bytes in new memory -/
theorem rd_made (w : World) (l : List UInt8) (cs : Array Value) (t : TypeId) (fr : Nat × Nat) (hc : cs = (l.map B).toArray) (hl : l.length ≤ 9223372036854775807) :
    Rd (w.alloc (.cells cs t fr)) (some ⟨w.heap.size, 0, none⟩) l.length l.length l := by
  subst hc
  refine ⟨rfl, Nat.le_refl _, hl, (fun h => by cases h), .inr ⟨_, 0, rfl, by simp, fun i hi => ?_⟩⟩
  rw [World.cell?_alloc_mark]; simp [hi]

end Go.Proofs.Ytfcbndjciojniaa.W
