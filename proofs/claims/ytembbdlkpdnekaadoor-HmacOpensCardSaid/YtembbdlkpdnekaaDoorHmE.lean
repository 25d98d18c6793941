/- THE LAW HmacEqual. -/
import Derived.Test.YtembbdlkpdnekaaDoorHmD
namespace Go.Proofs.YtembbdlkpdnekaaDoor.W
open Go.ChangeShapes Go.WideShapes Go.ChangeAt Go.RowKit
open Go.Proofs.YtembbdlkpdnekaaDoor.P

theorem str_eqb (a b : ByteArray) : (a.toList == b.toList) = decide (a.data.toList = b.data.toList) := by
  rw [ByteArray.toList_eq, ByteArray.toList_eq]
  rw [Bool.eq_iff_iff]; simp

theorem xor_ne (b u : UInt8) (h : u ≠ 0) : b ^^^ u ≠ b := by
  intro e
  apply h
  have h1 := congrArg UInt8.toNat e
  rw [UInt8.toNat_xor] at h1
  have h0 : u.toNat = 0 := by
    apply Nat.eq_of_testBit_eq
    intro i
    have := congrArg (fun z => z.testBit i) h1
    simp only [Nat.testBit_xor] at this
    rw [Nat.zero_testBit]
    revert this
    cases b.toNat.testBit i <;> cases u.toNat.testBit i <;> decide
  exact UInt8.toNat_inj.1 h0
theorem bw_frozen (w : World) (e : TypeId) (s : ByteArray) (j : Nat) (hj : j < s.size) : (Lib.bytesWorld w e s).frozen? ⟨w.heap.size, j, none⟩ = false := by
  have h1 := Lib.bytesWorld_at_new w e s
  have h2 : s.size ≤ (Lib.bytesCells w e s).size := by simp [Lib.bytesCells]
  simp [World.frozen?, h1]
  omega
/-- CONVERT a string into bytes, in new memory that may be written. -/
theorem conv_str2 {w : World} {ops : Array Oper} {rest : List Oper} {o : Oper} {a : Act} {Q : Exit → Act → World → Prop} (hgd : o.guard = none) (x : Operand)
    (ho : o.op = .convert 9 29 x) (s : ByteArray) (hx : a.eval x = .string s) (hs : s.size ≤ maxLen)
    (h : ∀ w' c, Rd w' (some ⟨w.heap.size, 0, none⟩) s.size c s.data.toList → (∀ j, j < s.size → w'.frozen? ⟨w.heap.size, j, none⟩ = false) → Below w.heap.size w w' → w'.heap.size = w.heap.size + 1 → wpList Tryd.prog ops Q rest (a.put o.dst (.slice (some ⟨w.heap.size, 0, none⟩) s.size c)) w') :
    wpList Tryd.prog ops Q (o :: rest) a w := by
  have hrun := Lib.run_convert_string_bytes w 9 29 5 s Tryd.underlying9 Tryd.underlying29 Tryd.underlying5
  refine wpList_plain hgd fun K hK => ?_
  unfold Oper.wp
  simp [execOp, ho, hx, hrun, Result.andThen]
  refine hK _ _ (h _ (grownCap w s.size 0 5) ?_ (fun j hj => bw_frozen w _ s j hj) ?_ (Lib.bytesWorld_size w _ s))
  · refine ⟨by simp, grownCap_ge _ _ _ _, by have := grownCap_le_maxLen w s.size 0 5 hs; unfold maxLen at this; omega, (fun h => by cases h), .inr ⟨w.heap.size, 0, rfl, by rw [Lib.bytesWorld_size]; omega, fun i hi => ?_⟩⟩
    rw [Nat.zero_add, Lib.bytesWorld_cell w _ s i hi]
    rfl
  · exact ⟨rfl, rfl, rfl, by rw [Lib.bytesWorld_size]; omega, fun k hk => Lib.bytesWorld_at_old w _ s k hk⟩
theorem Rd.at0 {w : World} {g len cap : Nat} {l : List UInt8} (h : Rd w (some ⟨g, 0, none⟩) len cap l) (q : Nat) (b : UInt8) (hq : q < len) (hb : l.getD q 0 = b) : w.cell? ⟨g, q, none⟩ = some (.int .u8 (b.toNat : Int)) := by
  obtain ⟨b3, o3, he3, -, hc3⟩ := h.lt_of (by omega)
  cases he3
  have h9 := hc3 q hq
  rw [Nat.zero_add, hb] at h9
  exact h9
/-- a byte is written into what reads as bytes -/
theorem Rd.store {w : World} {g len cap : Nat} {l : List UInt8} (h : Rd w (some ⟨g, 0, none⟩) len cap l) (q : Nat) (y : UInt8) (hq : q < len) : Rd (w.setCell ⟨g, q, none⟩ (B y)) (some ⟨g, 0, none⟩) len cap (l.set q y) := by
  obtain ⟨b, off, he, hlt, hc⟩ := h.lt_of (by omega)
  cases he
  refine ⟨by rw [List.length_set]; exact h.hlen, h.hle, h.hmax, h.hnil, .inr ⟨g, 0, rfl, by simpa [World.setCell] using hlt, fun i hi => ?_⟩⟩
  have hl := h.hlen
  by_cases hiq : i = q
  · subst hiq
    have := hc i hi
    rw [Nat.zero_add] at this ⊢
    rw [World.cell?_setCell_same (w := w) (a := ⟨g, i, none⟩) (v := B y) (h := this)]
    simp [hl, hi]
  · rw [World.cell?_setCell_other (w := w) (a := ⟨g, q, none⟩) (b := ⟨g, 0 + i, none⟩) (v := B y) (h := by rw [Nat.zero_add]; intro h; cases h; exact hiq rfl), hc i hi]
    simp [List.getElem?_set, Ne.symm hiq]

theorem Rd.convst {w : World} {g len cap : Nat} {l : List UInt8} (h : Rd w (some ⟨g, 0, none⟩) len cap l) (q : Nat) (b u : UInt8) (x : Int) (hq : q < len) (hx : bits .xor .u8 (b.toNat : Int) x = ((b ^^^ u).toNat : Int)) :
    (Go.convert 29 9 (.slice (some ⟨g, 0, none⟩) len cap)).run Tryd.prog (w.setCell ⟨g, q, none⟩ (.int .u8 (bits .xor .u8 (b.toNat : Int) x))) = .ok (.string (str (l.set q (b ^^^ u)))) (w.setCell ⟨g, q, none⟩ (.int .u8 (bits .xor .u8 (b.toNat : Int) x))) := by
  rw [hx]
  exact conv_rd (h.store q (b ^^^ u) hq)
theorem equal_b (s t : ByteArray) (w : World) (d : Bool) (hs : s.size ≤ 4611686018427387904) (ht : t.size ≤ 4611686018427387904) (hd : decide (s.data.toList = t.data.toList) = d) :
    Calls Tryd.prog 33 #[.string s, .string t] w fun e w' => e = .returned (.bool d) ∧ w = w' := by
  subst hd; exact equal_any s t w hs ht

set_option maxRecDepth 100000 in
set_option maxHeartbeats 4000000 in
theorem law_HmacEqual (s t : ByteArray) (i x : Int) (w : World) (hK : Ks w) (hs : s.size ≤ maxLen) (ht : t.size ≤ maxLen) (hi : (Lit.int .i64 i).wf = true) (hx : (Lit.int .u8 x).wf = true) :
    Calls Tryd.prog 10 #[.string s, .string t, .int .i64 i, .int .u8 x] w fun e w' => e = .returned (.bool true) ∧ Below w.heap.size w w' := by
  have HK := Lib.hid hK
  obtain ⟨i1, i2⟩ := bd hi
  obtain ⟨x1, x2⟩ := bd8 hx
  have HSM := Lib.hid hs
  unfold maxLen at hs ht
  clear hK hi hx
  by_cases h1 : 2000 < s.size
  · go_enter Tryd.func10, Tryd.ntmps10
    go_wp2_with (go_at_call 28; refine (awake4 _ HK.out).mono ?_; rintro e w' ⟨rfl, hb⟩)
    go_ret
    exact ⟨rfl, by assumption⟩
  · by_cases h2 : 2000 < t.size
    · go_enter Tryd.func10, Tryd.ntmps10
      go_wp2_with (go_at_call 28; refine (awake4 _ HK.out).mono ?_; rintro e w' ⟨rfl, hb⟩)
      go_ret
      exact ⟨rfl, by assumption⟩
    · obtain ⟨d, hd⟩ : ∃ d, decide (s.data.toList = t.data.toList) = d := ⟨_, rfl⟩
      have hd2 : (s.toList == t.toList) = d := by rw [str_eqb, hd]
      have D := Lib.hid hd
      have hlen : (s ++ (⟨#[120]⟩ : ByteArray)).size = s.size + 1 := by rw [ByteArray.size_append]; rfl
      have E2 := Lib.hid (show decide (s.data.toList = (s ++ (⟨#[120]⟩ : ByteArray)).data.toList) = false by
        rw [decide_eq_false_iff_not]; intro h
        have h3 := congrArg List.length h
        rw [Array.length_toList, Array.length_toList] at h3
        have h4 : s.size = (s ++ (⟨#[120]⟩ : ByteArray)).size := h3
        rw [hlen] at h4
        omega)
      have HL := Lib.hid (show (s ++ (⟨#[120]⟩ : ByteArray)).size ≤ 4611686018427387904 by rw [hlen]; omega)
      have hcat : ¬ 9223372036854775807 < s.size + ByteArray.size ⟨#[120]⟩ := by
        have : ByteArray.size ⟨#[120]⟩ = 1 := rfl
        omega
      clear hd hlen
      by_cases h3 : s.size = 0
      · have hq : ((s.size : Int) == 0) = true := by rw [beq_iff_eq]; omega
        go_enter Tryd.func10, Tryd.ntmps10
        go_wp2_with fail
        refine (equal_b s s w true (by omega) (by omega) (by simp)).mono ?_
        rintro e w1 ⟨rfl, rfl⟩
        go_wp2_with fail
        refine (equal_b s t w d (by omega) (by omega) D.out).mono ?_
        rintro e w1 ⟨rfl, rfl⟩
        go_wp2_with fail
        refine (equal_b s (s ++ (⟨#[120]⟩ : ByteArray)) w false (by omega) HL.out E2.out).mono ?_
        rintro e w1 ⟨rfl, rfl⟩
        go_wp2_with (go_at_call 28; refine (awake4 _ HK.out).mono ?_; rintro e w' ⟨rfl, hb⟩)
        go_ret
        exact ⟨rfl, by assumption⟩
      · have hq : ((s.size : Int) == 0) = false := by rw [beq_eq_false_iff_ne]; omega
        by_cases h4 : x = 0
        · have hq2 : (x == 0) = true := by simp; omega
          go_enter Tryd.func10, Tryd.ntmps10
          go_wp2_with fail
          refine (equal_b s s w true (by omega) (by omega) (by simp)).mono ?_
          rintro e w1 ⟨rfl, rfl⟩
          go_wp2_with fail
          refine (equal_b s t w d (by omega) (by omega) D.out).mono ?_
          rintro e w1 ⟨rfl, rfl⟩
          go_wp2_with fail
          refine (equal_b s (s ++ (⟨#[120]⟩ : ByteArray)) w false (by omega) HL.out E2.out).mono ?_
          rintro e w1 ⟨rfl, rfl⟩
          go_wp2_with (go_at_call 28; refine (awake4 _ HK.out).mono ?_; rintro e w' ⟨rfl, hb⟩)
          go_ret
          exact ⟨rfl, by assumption⟩
        · have hq2 : (x == 0) = false := by simp; omega
          obtain ⟨u, hu⟩ : ∃ u : UInt8, (u.toNat : Int) = x := ⟨UInt8.ofNat x.toNat, by simp [UInt8.toNat_ofNat']; omega⟩
          have hu0 : u ≠ 0 := by rintro rfl; exact h4 (by rw [← hu]; rfl)
          have hW0 : 0 ≤ IntKind.u64.wrap i := by simp [IntKind.wrap, IntKind.bits, IntKind.signed]; omega
          have hq0 : 0 ≤ (IntKind.u64.wrap i).tmod (s.size : Int) := by rw [Int.tmod_eq_emod_of_nonneg hW0]; exact Int.emod_nonneg _ (by omega)
          have hq1 : (IntKind.u64.wrap i).tmod (s.size : Int) < (s.size : Int) := by rw [Int.tmod_eq_emod_of_nonneg hW0]; exact Int.emod_lt_of_pos _ (by omega)
          obtain ⟨q, hqe⟩ : ∃ q : Nat, (IntKind.u64.wrap i).tmod (s.size : Int) = (q : Int) := ⟨((IntKind.u64.wrap i).tmod (s.size : Int)).toNat, by omega⟩
          have hqs : q < s.size := by omega
          obtain ⟨b, hb⟩ : ∃ b, s.data.toList.getD q 0 = b := ⟨_, rfl⟩
          have hxo := xor8 b u
          have hne : b ^^^ u ≠ b := xor_ne b u hu0
          have hsl : s.data.toList.length = s.size := by simp
          have E3 := Lib.hid (show decide (s.data.toList = (str (s.data.toList.set q (b ^^^ u))).data.toList) = false by
            rw [decide_eq_false_iff_not, str_data]; intro h
            have h5 := congrArg (fun z => List.getD z q 0) h
            change s.data.toList.getD q 0 = (s.data.toList.set q (b ^^^ u)).getD q 0 at h5
            have hqq : q < s.data.toList.length := by rw [hsl]; exact hqs
            rw [hb] at h5
            rw [List.getD_eq_getElem?_getD, List.getElem?_set_self hqq] at h5
            exact hne h5.symm)
          have HSZ := Lib.hid (show (str (s.data.toList.set q (b ^^^ u))).size = s.size by rw [str_size, List.length_set, hsl])
          rw [hu] at hxo
          have HXO := Lib.hid hxo
          have HBQ := Lib.hid hb
          clear hu hu0 hq0 hq1 hb hne hsl hxo hW0
          go_enter Tryd.func10, Tryd.ntmps10
          go_wp2_with fail
          refine (equal_b s s w true (by omega) (by omega) (by simp)).mono ?_
          rintro e w1 ⟨rfl, rfl⟩
          go_wp2_with fail
          refine (equal_b s t w d (by omega) (by omega) D.out).mono ?_
          rintro e w1 ⟨rfl, rfl⟩
          go_wp2_with fail
          refine (equal_b s (s ++ (⟨#[120]⟩ : ByteArray)) w false (by omega) HL.out E2.out).mono ?_
          rintro e w1 ⟨rfl, rfl⟩
          go_wp2_with (with_reducible refine conv_str2 rfl _ rfl s rfl HSM.out ?_; intro w2 c2 hr2 hf2 hb2 hz2; have HR2 := Lib.hid hr2; have HB2 := Lib.hid hb2; have HG2 := Lib.hid hz2; have fz := hf2 q hqs; have c0 := hr2.at0 q b hqs HBQ.out; have hcv := hr2.convst q b u x hqs HXO.out; clear hr2 hf2 hb2 hz2)
          refine (equal_b s _ _ false (by omega) (by rw [HSZ.out]; omega) E3.out).mono ?_
          rintro e w3 ⟨rfl, rfl⟩
          have hb3 : Below w.heap.size w (w2.setCell ⟨w.heap.size, q, none⟩ (.int .u8 (bits .xor .u8 (b.toNat : Int) x))) := HB2.out.trans ((Upd.setCell _ _ _ _).below (Nat.le_refl _))
          have HB3 := Lib.hid hb3
          have HK3 := Lib.hid (HK.out.below hb3 HK.out.pos)
          clear hcv c0 fz hb3
          generalize w2.setCell ⟨w.heap.size, q, none⟩ (.int .u8 (bits .xor .u8 (b.toNat : Int) x)) = w3 at *
          go_wp2_with fail
          refine (awake4 w3 HK3.out).mono ?_
          rintro e w4 ⟨rfl, hb4⟩
          go_wp2_with fail
          go_ret
          exact ⟨rfl, HB3.out.trans (hb4.mono HB3.out.size)⟩

end Go.Proofs.YtembbdlkpdnekaaDoor.W
