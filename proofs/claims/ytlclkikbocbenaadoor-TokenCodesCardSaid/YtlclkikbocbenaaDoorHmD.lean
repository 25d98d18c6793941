/- CONTRACTS of layer 4 (hmac): whether two texts are equal. THE LAW HmacEqual. -/
import Derived.Test.YtlclkikbocbenaaDoorHmC
set_option linter.unusedSimpArgs false
set_option linter.unusedVariables false
namespace Go.Proofs.YtlclkikbocbenaaDoor.W
open Go.ChangeShapes Go.WideShapes Go.ChangeAt Go.RowKit
open Go.Proofs.YtlclkikbocbenaaDoor.P

theorem U_nat (x : Nat) (h : x < 9223372036854775808) : (BitVec.ofInt 64 (x : Int)).toNat = x := by simp [BitVec.toNat_ofInt]; omega
theorem or_nat64 (x y : Nat) (hx : x < 9223372036854775808) (hy : y < 9223372036854775808) : bits .or .i64 (x : Int) (y : Int) = ((x ||| y : Nat) : Int) := by
  have h : x ||| y < 2 ^ 63 := Nat.or_lt_two_pow hx hy
  show IntKind.i64.wrap ((BitVec.ofInt 64 (x : Int) ||| BitVec.ofInt 64 (y : Int)).toNat : Int) = _
  rw [BitVec.toNat_or, U_nat x hx, U_nat y hy, IntKind.wrap_i64]
  omega
theorem xor_nat64 (x y : Nat) (hx : x < 9223372036854775808) (hy : y < 9223372036854775808) : bits .xor .i64 (x : Int) (y : Int) = ((x ^^^ y : Nat) : Int) := by
  have h : x ^^^ y < 2 ^ 63 := Nat.xor_lt_two_pow hx hy
  show IntKind.i64.wrap ((BitVec.ofInt 64 (x : Int) ^^^ BitVec.ofInt 64 (y : Int)).toNat : Int) = _
  rw [BitVec.toNat_xor, U_nat x hx, U_nat y hy, IntKind.wrap_i64]
  omega
theorem nat_xor_zero (x y : Nat) : x ^^^ y = 0 ↔ x = y := by
  constructor
  · intro h
    apply Nat.eq_of_testBit_eq
    intro i
    have := congrArg (fun z => z.testBit i) h
    simp only [Nat.testBit_xor, Nat.zero_testBit] at this
    revert this
    cases x.testBit i <;> cases y.testBit i <;> decide
  · rintro rfl; exact Nat.xor_self x
theorem nat_or_zero (x y : Nat) : x ||| y = 0 ↔ x = 0 ∧ y = 0 := by
  constructor
  · intro h
    have hb : ∀ i, x.testBit i = false ∧ y.testBit i = false := fun i => by
      have := congrArg (fun z => z.testBit i) h
      simp only [Nat.testBit_or, Nat.zero_testBit, Bool.or_eq_false_iff] at this
      exact this
    exact ⟨Nat.eq_of_testBit_eq fun i => by rw [(hb i).1, Nat.zero_testBit], Nat.eq_of_testBit_eq fun i => by rw [(hb i).2, Nat.zero_testBit]⟩
  · rintro ⟨rfl, rfl⟩; rfl

theorem byte_any (s : ByteArray) (i : Nat) (w : World) (_hs : s.size ≤ 9223372036854775807) : Calls Tryd.prog 71 #[.string s, .int .i64 (i : Int)] w fun e w' => e = .returned (.int .u8 ((s.data.toList.getD i 0).toNat : Int)) ∧ w = w' := by
  by_cases h : i < s.size
  · have hv : s[i].toNat = (s.data.toList.getD i 0).toNat := by
      have hi : i < s.data.size := h
      rw [List.getD_eq_getElem?_getD, Array.getElem?_toList, Array.getElem?_eq_getElem hi]; rfl
    have HV := Lib.hid hv
    clear hv
    go_enter Tryd.func71, Tryd.ntmps71
    go_wp2_with fail
    go_ret
    exact ⟨by rw [← HV.out]; rfl, rfl⟩
  · have hv : s.data.toList.getD i 0 = 0 := by
      have hi : s.data.size ≤ i := Nat.le_of_not_lt h
      rw [List.getD_eq_getElem?_getD, Array.getElem?_toList, Array.getElem?_eq_none hi]; rfl
    rw [hv]
    clear hv
    go_enter Tryd.func71, Tryd.ntmps71
    go_wp2_with fail
    go_ret
    exact ⟨rfl, rfl⟩

theorem eq_iff (l l' : List UInt8) (M : Nat) (hM : l.length ≤ M) : (l.length = l'.length ∧ ∀ i, i < M → l.getD i 0 = l'.getD i 0) ↔ l = l' := by
  constructor
  · rintro ⟨h1, h2⟩
    apply List.ext_getElem h1
    intro i ha hb
    have := h2 i (by omega)
    simpa [ha, hb] using this
  · rintro rfl; exact ⟨rfl, fun _ _ => rfl⟩

set_option maxHeartbeats 2000000 in
theorem equal_any (s t : ByteArray) (w : World) (hs : s.size ≤ 4611686018427387904) (ht : t.size ≤ 4611686018427387904) :
    Calls Tryd.prog 40 #[.string s, .string t] w fun e w' => e = .returned (.bool (decide (s.data.toList = t.data.toList))) ∧ w = w' := by
  obtain ⟨r, hr⟩ : ∃ r, decide (s.data.toList = t.data.toList) = r := ⟨_, rfl⟩
  rw [hr]
  have HR := Lib.hid hr
  have hsl : s.data.toList.length = s.size := by simp
  have htl : t.data.toList.length = t.size := by simp
  have HSL := Lib.hid hsl
  have HTL := Lib.hid htl
  have hx0 := xor_nat64 s.size t.size (by omega) (by omega)
  have hz0 := nat_xor_zero s.size t.size
  have hlt0 : s.size ^^^ t.size < 9223372036854775808 := Nat.xor_lt_two_pow (n := 63) (by omega) (by omega)
  obtain ⟨x0, hx⟩ : ∃ x, s.size ^^^ t.size = x := ⟨_, rfl⟩
  rw [hx] at hx0 hz0 hlt0
  have HZ0 := Lib.hid hz0
  obtain ⟨M, hM⟩ : ∃ M, (s.size < t.size ∧ M = t.size) ∨ (t.size ≤ s.size ∧ M = s.size) := by
    rcases Nat.lt_or_ge s.size t.size with h | h
    · exact ⟨_, .inl ⟨h, rfl⟩⟩
    · exact ⟨_, .inr ⟨h, rfl⟩⟩
  have hM1 : s.size ≤ M := by omega
  have hM2 : t.size ≤ M := by omega
  have hM3 : M ≤ 4611686018427387904 := by omega
  have HEQ := Lib.hid (eq_iff s.data.toList t.data.toList M (by rw [hsl]; exact hM1))
  clear hr hsl htl hz0 hx
  rcases hM with ⟨hlt, hM⟩ | ⟨hle, hM⟩
  all_goals
    go_enter Tryd.func40, Tryd.ntmps40
    go_wp2_with fail
    go_loop [5, 17] (fun v i => ∃ (k x : Nat), k ≤ M ∧ i = .int .i64 (k : Int) ∧ v = .int .i64 (x : Int) ∧ x < 9223372036854775808 ∧ Hid (x = 0 ↔ s.size = t.size ∧ ∀ j, j < k → s.data.toList.getD j 0 = t.data.toList.getD j 0)) (fun _ i => M - (intOf i).toNat)
    case atStart => exact ⟨0, x0, Nat.zero_le _, rfl, by first | rfl | (rw [hx0]), hlt0, Lib.hid (HZ0.out.trans ⟨fun h => ⟨h, fun j hj => by omega⟩, fun h => h.1⟩)⟩
    case round =>
      obtain ⟨k, x, hk, rfl, rfl, hxl, HI⟩ := hrel
      by_cases hkm : k < M
      · obtain ⟨X, hX⟩ : ∃ X, s.data.toList.getD k 0 = X := ⟨_, rfl⟩
        obtain ⟨Y, hY⟩ : ∃ Y, t.data.toList.getD k 0 = Y := ⟨_, rfl⟩
        have hxy := xor8 X Y
        have hz : (X ^^^ Y).toNat < 256 := (X ^^^ Y).toNat_lt
        have hxz : (X ^^^ Y).toNat = 0 ↔ X = Y := by
          rw [UInt8.toNat_xor, nat_xor_zero]; exact UInt8.toNat_inj
        obtain ⟨z, hzz⟩ : ∃ z, (X ^^^ Y).toNat = z := ⟨_, rfl⟩
        rw [hzz] at hxy hz hxz
        have hor := or_nat64 x z hxl (by omega)
        have hol : x ||| z < 9223372036854775808 := Nat.or_lt_two_pow (n := 63) hxl (by omega)
        have HN := Lib.hid (show x ||| z = 0 ↔ s.size = t.size ∧ ∀ j, j < k + 1 → s.data.toList.getD j 0 = t.data.toList.getD j 0 from by
          rw [nat_or_zero, HI.out, hxz]
          constructor
          · rintro ⟨⟨h1, h2⟩, h3⟩
            refine ⟨h1, fun j hj => ?_⟩
            rcases Nat.lt_or_ge j k with h | h
            · exact h2 j h
            · obtain rfl : j = k := by omega
              rw [hX, hY, h3]
          · rintro ⟨h1, h2⟩
            exact ⟨⟨h1, fun j hj => h2 j (by omega)⟩, by rw [← hX, ← hY]; exact h2 k (by omega)⟩)
        obtain ⟨y, hy⟩ : ∃ y, x ||| z = y := ⟨_, rfl⟩
        rw [hy] at hor hol HN
        have HX := Lib.hid hX
        have HY := Lib.hid hY
        have hX8 := X.toNat_lt
        have hY8 := Y.toNat_lt
        obtain ⟨Xn, hXn⟩ : ∃ n, X.toNat = n := ⟨_, rfl⟩
        obtain ⟨Yn, hYn⟩ : ∃ n, Y.toNat = n := ⟨_, rfl⟩
        rw [hXn] at hxy hX8
        rw [hYn] at hxy hY8
        have HXN := Lib.hid hXn
        have HYN := Lib.hid hYn
        clear hX hY hzz hxz hy hXn hYn HI
        go_wp2_with fail
        refine (byte_any s k w (by omega)).mono ?_
        rw [HX.out, HXN.out]
        rintro e w' ⟨rfl, rfl⟩
        go_wp2_with fail
        refine (byte_any t k w (by omega)).mono ?_
        rw [HY.out, HYN.out]
        rintro e w' ⟨rfl, rfl⟩
        go_wp2_with fail
        go_round
        case rel => exact ⟨k + 1, y, by omega, by go_num, rfl, hol, HN⟩
        case measure => simp [intOf]; omega
      · obtain rfl : k = M := by omega
        have hfin := HI.out
        rw [← HSL.out, ← HTL.out, HEQ.out] at hfin
        have HF := Lib.hid (show ((x : Int) == 0) = r from by
          rw [← HR.out, Bool.eq_iff_iff]; simp only [beq_iff_eq, decide_eq_true_eq]; rw [← hfin]; omega)
        clear hfin HI
        go_wp2_with fail
        go_ret
        exact ⟨by rw [← HF.out]; rfl, rfl⟩

end Go.Proofs.YtlclkikbocbenaaDoor.W

namespace Go.Proofs.YtlclkikbocbenaaDoor.W
open Go.ChangeShapes Go.WideShapes Go.ChangeAt Go.RowKit
open Go.Proofs.YtlclkikbocbenaaDoor.P

theorem str_eqb (a b : ByteArray) : (a.toList == b.toList) = decide (a.data.toList = b.data.toList) := by
  rw [ByteArray.toList_eq, ByteArray.toList_eq]
  rw [Bool.eq_iff_iff]; simp

theorem xor_ne (b u : UInt8) (h : u ≠ 0) : b ^^^ u ≠ b := by
  intro e
  apply h
  have h1 := congrArg UInt8.toNat e
  rw [UInt8.toNat_xor] at h1
  have h0 : u.toNat = 0 := by
    apply Nat.eq_of_testBit_eq
    intro i
    have := congrArg (fun z => z.testBit i) h1
    simp only [Nat.testBit_xor] at this
    rw [Nat.zero_testBit]
    revert this
    cases b.toNat.testBit i <;> cases u.toNat.testBit i <;> decide
  exact UInt8.toNat_inj.1 h0
theorem bw_frozen (w : World) (e : TypeId) (s : ByteArray) (j : Nat) (hj : j < s.size) : (Lib.bytesWorld w e s).frozen? ⟨w.heap.size, j, none⟩ = false := by
  have h1 := Lib.bytesWorld_at_new w e s
  have h2 : s.size ≤ (Lib.bytesCells w e s).size := by simp [Lib.bytesCells]
  simp [World.frozen?, h1]
  omega
/-- CONVERT a string into bytes, in new memory that may be written. -/
theorem conv_str2 {w : World} {ops : Array Oper} {rest : List Oper} {o : Oper} {a : Act} {Q : Exit → Act → World → Prop} (hgd : o.guard = none) (x : Operand)
    (ho : o.op = .convert 9 31 x) (s : ByteArray) (hx : a.eval x = .string s) (hs : s.size ≤ maxLen)
    (h : ∀ w' c, Rd w' (some ⟨w.heap.size, 0, none⟩) s.size c s.data.toList → (∀ j, j < s.size → w'.frozen? ⟨w.heap.size, j, none⟩ = false) → Below w.heap.size w w' → w'.heap.size = w.heap.size + 1 → wpList Tryd.prog ops Q rest (a.put o.dst (.slice (some ⟨w.heap.size, 0, none⟩) s.size c)) w') :
    wpList Tryd.prog ops Q (o :: rest) a w := by
  have hrun := Lib.run_convert_string_bytes w 9 31 5 s Tryd.underlying9 Tryd.underlying31 Tryd.underlying5
  refine wpList_plain hgd fun K hK => ?_
  unfold Oper.wp
  simp [execOp, ho, hx, hrun, Result.andThen]
  refine hK _ _ (h _ (grownCap w s.size 0 5) ?_ (fun j hj => bw_frozen w _ s j hj) ?_ (Lib.bytesWorld_size w _ s))
  · refine ⟨by simp, grownCap_ge _ _ _ _, by have := grownCap_le_maxLen w s.size 0 5 hs; unfold maxLen at this; omega, (fun h => by cases h), .inr ⟨w.heap.size, 0, rfl, by rw [Lib.bytesWorld_size]; omega, fun i hi => ?_⟩⟩
    rw [Nat.zero_add, Lib.bytesWorld_cell w _ s i hi]
    rfl
  · exact ⟨rfl, rfl, rfl, by rw [Lib.bytesWorld_size]; omega, fun k hk => Lib.bytesWorld_at_old w _ s k hk⟩
theorem Rd.at0 {w : World} {g len cap : Nat} {l : List UInt8} (h : Rd w (some ⟨g, 0, none⟩) len cap l) (q : Nat) (b : UInt8) (hq : q < len) (hb : l.getD q 0 = b) : w.cell? ⟨g, q, none⟩ = some (.int .u8 (b.toNat : Int)) := by
  obtain ⟨b3, o3, he3, -, hc3⟩ := h.lt_of (by omega)
  cases he3
  have h9 := hc3 q hq
  rw [Nat.zero_add, hb] at h9
  exact h9
/-- a byte is written into what reads as bytes -/
theorem Rd.store {w : World} {g len cap : Nat} {l : List UInt8} (h : Rd w (some ⟨g, 0, none⟩) len cap l) (q : Nat) (y : UInt8) (hq : q < len) : Rd (w.setCell ⟨g, q, none⟩ (B y)) (some ⟨g, 0, none⟩) len cap (l.set q y) := by
  obtain ⟨b, off, he, hlt, hc⟩ := h.lt_of (by omega)
  cases he
  refine ⟨by rw [List.length_set]; exact h.hlen, h.hle, h.hmax, h.hnil, .inr ⟨g, 0, rfl, by simpa [World.setCell] using hlt, fun i hi => ?_⟩⟩
  have hl := h.hlen
  by_cases hiq : i = q
  · subst hiq
    have := hc i hi
    rw [Nat.zero_add] at this ⊢
    rw [World.cell?_setCell_same (w := w) (a := ⟨g, i, none⟩) (v := B y) (h := this)]
    simp [hl, hi]
  · rw [World.cell?_setCell_other (w := w) (a := ⟨g, q, none⟩) (b := ⟨g, 0 + i, none⟩) (v := B y) (h := by rw [Nat.zero_add]; intro h; cases h; exact hiq rfl), hc i hi]
    simp [List.getElem?_set, Ne.symm hiq]

theorem Rd.convst {w : World} {g len cap : Nat} {l : List UInt8} (h : Rd w (some ⟨g, 0, none⟩) len cap l) (q : Nat) (b u : UInt8) (x : Int) (hq : q < len) (hx : bits .xor .u8 (b.toNat : Int) x = ((b ^^^ u).toNat : Int)) :
    (Go.convert 31 9 (.slice (some ⟨g, 0, none⟩) len cap)).run Tryd.prog (w.setCell ⟨g, q, none⟩ (.int .u8 (bits .xor .u8 (b.toNat : Int) x))) = .ok (.string (str (l.set q (b ^^^ u)))) (w.setCell ⟨g, q, none⟩ (.int .u8 (bits .xor .u8 (b.toNat : Int) x))) := by
  rw [hx]
  exact conv_rd (h.store q (b ^^^ u) hq)
theorem equal_b (s t : ByteArray) (w : World) (d : Bool) (hs : s.size ≤ 4611686018427387904) (ht : t.size ≤ 4611686018427387904) (hd : decide (s.data.toList = t.data.toList) = d) :
    Calls Tryd.prog 40 #[.string s, .string t] w fun e w' => e = .returned (.bool d) ∧ w = w' := by
  subst hd; exact equal_any s t w hs ht


end Go.Proofs.YtlclkikbocbenaaDoor.W
