/- CONTRACTS of layer 4 (hmac): whether two texts are equal. -/
import Derived.Test.YtembbdlkpdnekaaDoorHmC
namespace Go.Proofs.YtembbdlkpdnekaaDoor.W
open Go.ChangeShapes Go.WideShapes Go.ChangeAt Go.RowKit
open Go.Proofs.YtembbdlkpdnekaaDoor.P

theorem U_nat (x : Nat) (h : x < 9223372036854775808) : (BitVec.ofInt 64 (x : Int)).toNat = x := by simp [BitVec.toNat_ofInt]; omega
theorem or_nat64 (x y : Nat) (hx : x < 9223372036854775808) (hy : y < 9223372036854775808) : bits .or .i64 (x : Int) (y : Int) = ((x ||| y : Nat) : Int) := by
  have h : x ||| y < 2 ^ 63 := Nat.or_lt_two_pow hx hy
  show IntKind.i64.wrap ((BitVec.ofInt 64 (x : Int) ||| BitVec.ofInt 64 (y : Int)).toNat : Int) = _
  rw [BitVec.toNat_or, U_nat x hx, U_nat y hy, IntKind.wrap_i64]
  omega
theorem xor_nat64 (x y : Nat) (hx : x < 9223372036854775808) (hy : y < 9223372036854775808) : bits .xor .i64 (x : Int) (y : Int) = ((x ^^^ y : Nat) : Int) := by
  have h : x ^^^ y < 2 ^ 63 := Nat.xor_lt_two_pow hx hy
  show IntKind.i64.wrap ((BitVec.ofInt 64 (x : Int) ^^^ BitVec.ofInt 64 (y : Int)).toNat : Int) = _
  rw [BitVec.toNat_xor, U_nat x hx, U_nat y hy, IntKind.wrap_i64]
  omega
theorem nat_xor_zero (x y : Nat) : x ^^^ y = 0 ↔ x = y := by
  constructor
  · intro h
    apply Nat.eq_of_testBit_eq
    intro i
    have := congrArg (fun z => z.testBit i) h
    simp only [Nat.testBit_xor, Nat.zero_testBit] at this
    revert this
    cases x.testBit i <;> cases y.testBit i <;> decide
  · rintro rfl; exact Nat.xor_self x
theorem nat_or_zero (x y : Nat) : x ||| y = 0 ↔ x = 0 ∧ y = 0 := by
  constructor
  · intro h
    have hb : ∀ i, x.testBit i = false ∧ y.testBit i = false := fun i => by
      have := congrArg (fun z => z.testBit i) h
      simp only [Nat.testBit_or, Nat.zero_testBit, Bool.or_eq_false_iff] at this
      exact this
    exact ⟨Nat.eq_of_testBit_eq fun i => by rw [(hb i).1, Nat.zero_testBit], Nat.eq_of_testBit_eq fun i => by rw [(hb i).2, Nat.zero_testBit]⟩
  · rintro ⟨rfl, rfl⟩; rfl

theorem byte_any (s : ByteArray) (i : Nat) (w : World) (_hs : s.size ≤ 9223372036854775807) : Calls Tryd.prog 47 #[.string s, .int .i64 (i : Int)] w fun e w' => e = .returned (.int .u8 ((s.data.toList.getD i 0).toNat : Int)) ∧ w = w' := by
  by_cases h : i < s.size
  · have hv : s[i].toNat = (s.data.toList.getD i 0).toNat := by
      have hi : i < s.data.size := h
      rw [List.getD_eq_getElem?_getD, Array.getElem?_toList, Array.getElem?_eq_getElem hi]; rfl
    have HV := Lib.hid hv
    clear hv
    go_enter Tryd.func47, Tryd.ntmps47
    go_wp2_with fail
    go_ret
    exact ⟨by rw [← HV.out]; rfl, rfl⟩
  · have hv : s.data.toList.getD i 0 = 0 := by
      have hi : s.data.size ≤ i := Nat.le_of_not_lt h
      rw [List.getD_eq_getElem?_getD, Array.getElem?_toList, Array.getElem?_eq_none hi]; rfl
    rw [hv]
    clear hv
    go_enter Tryd.func47, Tryd.ntmps47
    go_wp2_with fail
    go_ret
    exact ⟨rfl, rfl⟩

theorem eq_iff (l l' : List UInt8) (M : Nat) (hM : l.length ≤ M) : (l.length = l'.length ∧ ∀ i, i < M → l.getD i 0 = l'.getD i 0) ↔ l = l' := by
  constructor
  · rintro ⟨h1, h2⟩
    apply List.ext_getElem h1
    intro i ha hb
    have := h2 i (by omega)
    simpa [ha, hb] using this
  · rintro rfl; exact ⟨rfl, fun _ _ => rfl⟩

set_option maxHeartbeats 2000000 in
theorem equal_any (s t : ByteArray) (w : World) (hs : s.size ≤ 4611686018427387904) (ht : t.size ≤ 4611686018427387904) :
    Calls Tryd.prog 33 #[.string s, .string t] w fun e w' => e = .returned (.bool (decide (s.data.toList = t.data.toList))) ∧ w = w' := by
  obtain ⟨r, hr⟩ : ∃ r, decide (s.data.toList = t.data.toList) = r := ⟨_, rfl⟩
  rw [hr]
  have HR := Lib.hid hr
  have hsl : s.data.toList.length = s.size := by simp
  have htl : t.data.toList.length = t.size := by simp
  have HSL := Lib.hid hsl
  have HTL := Lib.hid htl
  have hx0 := xor_nat64 s.size t.size (by omega) (by omega)
  have hz0 := nat_xor_zero s.size t.size
  have hlt0 : s.size ^^^ t.size < 9223372036854775808 := Nat.xor_lt_two_pow (n := 63) (by omega) (by omega)
  obtain ⟨x0, hx⟩ : ∃ x, s.size ^^^ t.size = x := ⟨_, rfl⟩
  rw [hx] at hx0 hz0 hlt0
  have HZ0 := Lib.hid hz0
  obtain ⟨M, hM⟩ : ∃ M, (s.size < t.size ∧ M = t.size) ∨ (t.size ≤ s.size ∧ M = s.size) := by
    rcases Nat.lt_or_ge s.size t.size with h | h
    · exact ⟨_, .inl ⟨h, rfl⟩⟩
    · exact ⟨_, .inr ⟨h, rfl⟩⟩
  have hM1 : s.size ≤ M := by omega
  have hM2 : t.size ≤ M := by omega
  have hM3 : M ≤ 4611686018427387904 := by omega
  have HEQ := Lib.hid (eq_iff s.data.toList t.data.toList M (by rw [hsl]; exact hM1))
  clear hr hsl htl hz0 hx
  rcases hM with ⟨hlt, hM⟩ | ⟨hle, hM⟩
  all_goals
    go_enter Tryd.func33, Tryd.ntmps33
    go_wp2_with fail
    go_loop [5, 17] (fun v i => ∃ (k x : Nat), k ≤ M ∧ i = .int .i64 (k : Int) ∧ v = .int .i64 (x : Int) ∧ x < 9223372036854775808 ∧ Hid (x = 0 ↔ s.size = t.size ∧ ∀ j, j < k → s.data.toList.getD j 0 = t.data.toList.getD j 0)) (fun _ i => M - (intOf i).toNat)
    case atStart => exact ⟨0, x0, Nat.zero_le _, rfl, by first | rfl | (rw [hx0]), hlt0, Lib.hid (HZ0.out.trans ⟨fun h => ⟨h, fun j hj => by omega⟩, fun h => h.1⟩)⟩
    case round =>
      obtain ⟨k, x, hk, rfl, rfl, hxl, HI⟩ := hrel
      by_cases hkm : k < M
      · obtain ⟨X, hX⟩ : ∃ X, s.data.toList.getD k 0 = X := ⟨_, rfl⟩
        obtain ⟨Y, hY⟩ : ∃ Y, t.data.toList.getD k 0 = Y := ⟨_, rfl⟩
        have hxy := xor8 X Y
        have hz : (X ^^^ Y).toNat < 256 := (X ^^^ Y).toNat_lt
        have hxz : (X ^^^ Y).toNat = 0 ↔ X = Y := by
          rw [UInt8.toNat_xor, nat_xor_zero]; exact UInt8.toNat_inj
        obtain ⟨z, hzz⟩ : ∃ z, (X ^^^ Y).toNat = z := ⟨_, rfl⟩
        rw [hzz] at hxy hz hxz
        have hor := or_nat64 x z hxl (by omega)
        have hol : x ||| z < 9223372036854775808 := Nat.or_lt_two_pow (n := 63) hxl (by omega)
        have HN := Lib.hid (show x ||| z = 0 ↔ s.size = t.size ∧ ∀ j, j < k + 1 → s.data.toList.getD j 0 = t.data.toList.getD j 0 from by
          rw [nat_or_zero, HI.out, hxz]
          constructor
          · rintro ⟨⟨h1, h2⟩, h3⟩
            refine ⟨h1, fun j hj => ?_⟩
            rcases Nat.lt_or_ge j k with h | h
            · exact h2 j h
            · obtain rfl : j = k := by omega
              rw [hX, hY, h3]
          · rintro ⟨h1, h2⟩
            exact ⟨⟨h1, fun j hj => h2 j (by omega)⟩, by rw [← hX, ← hY]; exact h2 k (by omega)⟩)
        obtain ⟨y, hy⟩ : ∃ y, x ||| z = y := ⟨_, rfl⟩
        rw [hy] at hor hol HN
        have HX := Lib.hid hX
        have HY := Lib.hid hY
        have hX8 := X.toNat_lt
        have hY8 := Y.toNat_lt
        obtain ⟨Xn, hXn⟩ : ∃ n, X.toNat = n := ⟨_, rfl⟩
        obtain ⟨Yn, hYn⟩ : ∃ n, Y.toNat = n := ⟨_, rfl⟩
        rw [hXn] at hxy hX8
        rw [hYn] at hxy hY8
        have HXN := Lib.hid hXn
        have HYN := Lib.hid hYn
        clear hX hY hzz hxz hy hXn hYn HI
        go_wp2_with fail
        refine (byte_any s k w (by omega)).mono ?_
        rw [HX.out, HXN.out]
        rintro e w' ⟨rfl, rfl⟩
        go_wp2_with fail
        refine (byte_any t k w (by omega)).mono ?_
        rw [HY.out, HYN.out]
        rintro e w' ⟨rfl, rfl⟩
        go_wp2_with fail
        go_round
        case rel => exact ⟨k + 1, y, by omega, by go_num, rfl, hol, HN⟩
        case measure => simp [intOf]; omega
      · obtain rfl : k = M := by omega
        have hfin := HI.out
        rw [← HSL.out, ← HTL.out, HEQ.out] at hfin
        have HF := Lib.hid (show ((x : Int) == 0) = r from by
          rw [← HR.out, Bool.eq_iff_iff]; simp only [beq_iff_eq, decide_eq_true_eq]; rw [← hfin]; omega)
        clear hfin HI
        go_wp2_with fail
        go_ret
        exact ⟨by rw [← HF.out]; rfl, rfl⟩

end Go.Proofs.YtembbdlkpdnekaaDoor.W
