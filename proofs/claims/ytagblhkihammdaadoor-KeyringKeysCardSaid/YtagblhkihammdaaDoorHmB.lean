/- CONTRACTS of layer 4 (hmac): a sum behind a block; tags; awake. -/
import Derived.Test.YtagblhkihammdaaDoorHmA
import Derived.Lib.SlBytesConst
namespace Go.Proofs.YtagblhkihammdaaDoor.W
open Go.ChangeShapes Go.WideShapes Go.ChangeAt Go.RowKit
open Go.Proofs.YtagblhkihammdaaDoor.P

theorem xor8 (x y : UInt8) : bits .xor .u8 (x.toNat : Int) (y.toNat : Int) = ((x ^^^ y).toNat : Int) := by
  rw [u8_xor_nat _ _ x.toNat_lt y.toNat_lt, UInt8.toNat_xor]
def mixX (b : List UInt8) (x : UInt8) (k : Nat) : List UInt8 := xorL x (b.take k) ++ b.drop k
theorem mixX_len (b : List UInt8) (x : UInt8) (k : Nat) : (mixX b x k).length = b.length := by simp [mixX, xorL]; omega
theorem mixX_zero (b : List UInt8) (x : UInt8) : mixX b x 0 = b := by simp [mixX, xorL]
theorem mixX_end (b : List UInt8) (x : UInt8) (n : Nat) (h : b.length = n) : mixX b x n = xorL x b := by
  unfold mixX; rw [List.take_of_length_le (by omega), List.drop_of_length_le (by omega), List.append_nil]
theorem mixX_get (b : List UInt8) (x : UInt8) (k : Nat) (h : k < b.length) : (mixX b x k).getD k 0 = b.getD k 0 := by
  unfold mixX
  rw [List.getD_eq_getElem?_getD, List.getElem?_append_right (by simp [xorL]; omega)]
  simp [xorL, show k - min k b.length = 0 by omega]
theorem mixX_set (b : List UInt8) (x : UInt8) (k : Nat) (h : k < b.length) : (mixX b x k).set k (b.getD k 0 ^^^ x) = mixX b x (k + 1) := by
  unfold mixX
  have e : (xorL x (b.take k)).length = k := by simp [xorL]; omega
  rw [List.set_append_right _ _ (by omega), e, Nat.sub_self, List.drop_eq_getElem_cons h, List.set_cons_zero, List.take_succ_eq_append_getElem h]
  have eg : b.getD k 0 = b[k] := by simp [h]
  rw [eg]
  simp only [xorL, List.map_append, List.map_cons, List.map_nil, List.append_assoc, List.cons_append, List.nil_append]

set_option maxRecDepth 100000 in
set_option maxHeartbeats 4000000 in
theorem behind_any (b : List UInt8) (x : UInt8) (a : Option Addr) (len cap : Nat) (t : List UInt8) (w : World) (hK : Ks w) (hb : b.length = 64) (hr : Rd w a len cap t) (hmax : len ≤ 50000000000000) :
    Calls Tryd.prog 88 #[.agg (b.map B).toArray, B x, .slice a len cap] w fun e w' => e = .returned (.string (str (behindL b x t))) ∧ Below w.heap.size w w' := by
  have HK := Lib.hid hK
  have HB64 := Lib.hid hb
  have HR := Lib.hid hr
  have htl := hr.hlen
  have HTL := Lib.hid htl
  have HOLD := Lib.hid (show len ≠ 0 → ∀ b' off, a = some ⟨b', off, none⟩ → b' < w.heap.size from fun h0 b' off he => by
    obtain ⟨b2, o2, he2, hl2, -⟩ := hr.lt_of h0
    rw [he] at he2; simp at he2; omega)
  have hx := x.toNat_lt
  obtain ⟨S, hS⟩ : ∃ S, str (behindL b x t) = S := ⟨_, rfl⟩
  rw [hS]
  have HS0 := Lib.hid hS
  unfold B
  clear hK hb hr htl hS
  go_enter Tryd.func88, Tryd.ntmps88
  go_wp2_with (with_reducible refine box_row (o := ⟨some 3, _, _, _, _, _⟩) rfl _ _ rfl (b.map B) rfl ?_; intro w1 hr1 hb1 hz1; have HR1 := Lib.hid hr1; clear hr1; have HZ1 := Lib.hid hz1; clear hz1; have HB1 := Lib.hid hb1; clear hb1)
  have HS1 := Lib.hid (show (mixX b x 0).map B = b.map B by rw [mixX_zero])
  go_loopw [9] (fun i wr => ∃ k : Nat, k ≤ 64 ∧ i = .int .i64 (k : Int) ∧ Hid (Row wr w.heap.size 118 ((mixX b x k).map B) ∧ Upd w1 wr w.heap.size)) (fun i _ => 64 - (intOf i).toNat)
  case atStart => exact ⟨0, by omega, rfl, Lib.hid ⟨by rw [HS1.out]; exact HR1.out, Upd.refl _ _⟩⟩
  case round =>
    obtain ⟨k, hk, rfl, HJ⟩ := hrel
    obtain ⟨hrow, hu⟩ := HJ.out
    by_cases hlt : k < 64
    · have hkb : k < b.length := by rw [HB64.out]; exact hlt
      have ck : wr.cell? ⟨w.heap.size, k, none⟩ = some (.int .u8 ((b.getD k 0).toNat : Int)) := by
        have := hrow.cell 0 k (by rw [mixX_len]; exact hkb)
        rw [mixX_get b x k hkb] at this
        exact this
      have fk := hrow.frozen k
      have hset := hrow.set k (b.getD k 0 ^^^ x)
      rw [mixX_set b x k hkb] at hset
      have hxo := xor8 (b.getD k 0) x
      have HJ2 := Lib.hid (show Row (wr.setCell ⟨w.heap.size, k, none⟩ (.int .u8 (bits .xor .u8 ((b.getD k 0).toNat : Int) (x.toNat : Int)))) w.heap.size 118 ((mixX b x (k + 1)).map B) ∧ Upd w1 (wr.setCell ⟨w.heap.size, k, none⟩ (.int .u8 (bits .xor .u8 ((b.getD k 0).toNat : Int) (x.toNat : Int)))) w.heap.size from by
        rw [hxo]; exact ⟨hset, hu.trans (Upd.setCell _ _ _ _)⟩)
      have hz := (b.getD k 0).toNat_lt
      generalize (b.getD k 0).toNat = z at *
      clear hset hrow hu HJ hxo hkb
      go_wp2_with fail
      go_roundw
      case rel => exact ⟨k + 1, by omega, by go_num, HJ2⟩
      case measure => simp [intOf]; omega
    · obtain rfl : k = 64 := by omega
      rw [mixX_end b x 64 HB64.out] at hrow
      obtain ⟨X, hX⟩ : ∃ X, xorL x b = X := ⟨_, rfl⟩
      have hXl : X.length = 64 := by rw [← hX, xorL_len]; exact HB64.out
      rw [hX] at hrow
      have HX := Lib.hid hX
      have HXL := Lib.hid hXl
      have HROW := Lib.hid hrow
      have hbw := HB1.out.trans (hu.below (Nat.le_refl _))
      have HBW := Lib.hid hbw
      have HGL := Lib.hid hrow.lt
      have HRW := Lib.hid (HR.out.mono hbw)
      have HS := Lib.hid (show str (shaL ([] ++ X ++ t)) = S by rw [List.nil_append, ← hX, ← HS0.out]; rfl)
      clear hX hXl hrow hu HJ hbw
      go_wp2_with fail
      refine (new_any wr).mono ?_
      rintro e w2 ⟨g, rfl, hg, hht, hb2⟩
      have HG := Lib.hid (show w.heap.size < g ∧ wr.heap.size ≤ g ∧ g ≠ 0 by have := HGL.out; omega)
      have HT2 := Lib.hid hht
      have HB2 := Lib.hid (HBW.out.trans (hb2.mono HBW.out.size))
      have HROW2 := Lib.hid (HROW.out.below hb2 HGL.out)
      have HRW2 := Lib.hid (HRW.out.mono hb2)
      clear hg hht hb2
      go_wp2_with fail
      refine (write_any g (some ⟨w.heap.size, 0, none⟩) 64 64 X [] w2 (HK.out.below HB2.out HK.out.pos) HG.out.2.2 HT2.out (HROW2.out.rd 64 HXL.out (by decide)) (fun _ b' off he => by cases he; have := HG.out.1; omega) (by simp)).mono ?_
      rintro e w3 ⟨rfl, hht3, hgw3⟩
      have HT3 := Lib.hid hht3
      have HRW3 := Lib.hid (HRW2.out.gw hgw3 (fun h0 b' off he => by have := HOLD.out h0 b' off he; have := HG.out.1; omega))
      have HB3 := Lib.hid (HB2.out.trans (hgw3.below (by have := HG.out.1; omega) HB2.out.size))
      clear hht3 hgw3
      go_wp2_with fail
      refine (write_any g a len cap t ([] ++ X) w3 (HK.out.below HB3.out HK.out.pos) HG.out.2.2 HT3.out HRW3.out (fun h0 b' off he => by have := HOLD.out h0 b' off he; have := HG.out.1; omega) (by simp [HXL.out]; omega)).mono ?_
      rintro e w4 ⟨rfl, hht4, hgw4⟩
      have HT4 := Lib.hid hht4
      have HB4 := Lib.hid (HB3.out.trans (hgw4.below (by have := HG.out.1; omega) HB3.out.size))
      clear hht4 hgw4
      go_wp2_with fail
      refine (sum_any g ([] ++ X ++ t) w4 (HK.out.below HB4.out HK.out.pos) HG.out.2.2 HT4.out (by simp [HXL.out, HTL.out]; omega)).mono ?_
      rw [HS.out]
      rintro e w5 ⟨rfl, hb5⟩
      go_wp2_with fail
      go_ret
      exact ⟨rfl, HB4.out.trans (hb5.mono HB4.out.size)⟩

set_option maxRecDepth 100000 in
set_option maxHeartbeats 4000000 in
theorem tag_any (s : ByteArray) (a : Option Addr) (len cap : Nat) (t : List UInt8) (w : World) (hK : Ks w) (hs : s.size ≤ 50000000000000) (hr : Rd w a len cap t) (hmax : len ≤ 50000000000000) :
    Calls Tryd.prog 53 #[.string s, .slice a len cap] w fun e w' => e = .returned (.string (str (tagL s.data.toList t))) ∧ Below w.heap.size w w' := by
  have HK := Lib.hid hK
  have HR := Lib.hid hr
  have HSZ := Lib.hid hs
  obtain ⟨KB, hKB⟩ : ∃ x, kbL s.data.toList = x := ⟨_, rfl⟩
  have hKBl : KB.length = 64 := by rw [← hKB]; exact kbL_len _
  obtain ⟨I, hI⟩ : ∃ x, behindL KB 54 t = x := ⟨_, rfl⟩
  have hIl : I.length = 32 := by rw [← hI]; exact shaL_len _
  obtain ⟨SI, hSI⟩ : ∃ x, str I = x := ⟨_, rfl⟩
  have hSIl : SI.size = 32 := by rw [← hSI, str_size, hIl]
  obtain ⟨S, hS⟩ : ∃ x, str (tagL s.data.toList t) = x := ⟨_, rfl⟩
  rw [hS]
  have HS := Lib.hid (show str (behindL KB 92 SI.data.toList) = S by rw [← hS, ← hSI, str_data, ← hI, ← hKB]; rfl)
  have HKB := Lib.hid hKB
  have HKBL := Lib.hid hKBl
  have HI := Lib.hid (show str (behindL KB 54 t) = SI by rw [hI, hSI])
  have HSM := Lib.hid (show SI.size ≤ maxLen by rw [hSIl]; decide)
  have HS32 := Lib.hid hSIl
  have HSZ64 := Lib.hid (show (Tryd.prog.info? 118).map (·.size) = some (KB.map B).length by rw [List.length_map, hKBl]; exact size64b)
  have HOL := Lib.hid (show ((List.replicate 64 (0 : UInt8)).map B).length = (KB.map B).length by rw [List.length_map, List.length_map, hKBl]; rfl)
  have HONE := Lib.hid (B_one KB)
  clear hK hr hs hKB hKBl hI hIl hSI hSIl hS
  go_enter Tryd.func53, Tryd.ntmps53
  go_wp2_with (first
    | (go_at_call 87; refine (key_any s _ HK.out HSZ.out).mono ?_; rw [HKB.out]; rintro e w1 ⟨rfl, hb1⟩; have HB1 := Lib.hid hb1; clear hb1)
    | (with_reducible refine alloc_row (o := ⟨some 5, _, _, _, _, _⟩) rfl _ rfl _ zeroB64' ?_; intro w2 hr2 hb2 hz2; have HR2 := Lib.hid hr2; have HB2 := Lib.hid (HB1.out.trans (hb2.mono HB1.out.size)); have HL2 := Lib.hid HB1.out.size; clear hr2 hb2 hz2)
    | (with_reducible refine store_row (o := ⟨none, .store 118 _ _, _, _, _, _⟩) rfl _ _ _ rfl _ _ rfl rfl 118 _ HR2.out HSZ64.out HOL.out HONE.out ?_; intro w3 hr3 hu3; have HR3 := Lib.hid hr3; have HB3 := Lib.hid (HB2.out.trans (hu3.below HL2.out)); clear hr3 hu3)
    | (with_reducible refine load_row (o := ⟨some 9, _, _, _, _, _⟩) rfl _ _ rfl _ rfl _ (KB.map B) _ HR3.out Tryd.underlying118 rfl HSZ64.out ?_))
  refine (behind_any KB 54 a len cap t w3 (HK.out.below HB3.out HK.out.pos) HKBL.out (HR.out.mono HB3.out) (by omega)).mono ?_
  rw [HI.out]
  rintro e w4 ⟨rfl, hb4⟩
  have HR4 := Lib.hid (HR3.out.below hb4 HR3.out.lt)
  have HB4 := Lib.hid (HB3.out.trans (hb4.mono HB3.out.size))
  clear hb4
  go_wp2_with (first
    | (with_reducible refine load_row (o := ⟨some 12, _, _, _, _, _⟩) rfl _ _ rfl _ rfl _ (KB.map B) _ HR4.out Tryd.underlying118 rfl HSZ64.out ?_)
    | (with_reducible refine conv_str rfl _ rfl SI rfl HSM.out ?_; intro w5 c5 hr5 hb5 hz5; have HR5 := Lib.hid hr5; have HB5 := Lib.hid (HB4.out.trans (hb5.mono HB4.out.size)); clear hr5 hb5 hz5))
  refine (behind_any KB 92 _ _ _ SI.data.toList w5 (HK.out.below HB5.out HK.out.pos) HKBL.out HR5.out (by have := HS32.out; omega)).mono ?_
  rw [HS.out]
  rintro e w6 ⟨rfl, hb6⟩
  go_wp2_with fail
  go_ret
  exact ⟨rfl, HB5.out.trans (hb6.mono HB5.out.size)⟩

end Go.Proofs.YtagblhkihammdaaDoor.W
