/- CONTRACTS of layer 4 (hmac): a derived key, of both. THE LAW HmacDerives. -/
import Derived.Test.YtagblhkihammdaaDoorHmG
import Derived.Test.YtagblhkihammdaaDoorHmC
import Derived.Test.YtagblhkihammdaaDoorFro
namespace Go.Proofs.YtagblhkihammdaaDoor.W
open Go.ChangeShapes Go.WideShapes Go.ChangeAt Go.RowKit
open Go.Proofs.YtagblhkihammdaaDoor.P

/-! ### plain: the text of which a derived key is the tag -/
def dk (p : List UInt8) (m k : Nat) : List UInt8 := p ++ (0 :: ((be8 m).take k ++ List.replicate (8 - k) 0))
def dv (p : List UInt8) (m : Nat) : List UInt8 := p ++ (0 :: be8 m)
theorem dk_len (p : List UInt8) (m k : Nat) (hk : k ≤ 8) : (dk p m k).length = p.length + 9 := by simp [dk, be8_len]; omega
theorem dv_len (p : List UInt8) (m : Nat) : (dv p m).length = p.length + 9 := by simp [dv, be8_len]
theorem dk_zero (p : List UInt8) (m n : Nat) (h : p.length = n) : splice (List.replicate (n + 9) (0 : UInt8)) 0 p = dk p m 0 := by
  unfold splice dk
  subst h
  simp only [List.take_zero, List.nil_append, Nat.zero_add, List.drop_replicate]
  rw [show p.length + 9 - p.length = 9 by omega]; rfl
theorem dk_set (p : List UInt8) (m k n : Nat) (h : p.length = n) (hk : k < 8) : (dk p m k).set (n + 1 + k) (UInt8.ofNat (m / 2 ^ (56 - 8 * k))) = dk p m (k + 1) := by
  unfold dk
  subst h
  have e2 : ((be8 m).take k).length = k := by simp [be8_len]; omega
  rw [List.set_append_right _ _ (by omega), show p.length + 1 + k - p.length = k + 1 by omega, List.set_cons_succ, List.set_append_right _ _ (by omega), e2, Nat.sub_self,
    show 8 - k = (8 - (k + 1)) + 1 by omega, List.replicate_succ, List.set_cons_zero, List.take_succ_eq_append_getElem (by rw [be8_len]; omega), List.append_assoc]
  congr 3
  simp [be8]
theorem dk_get (p : List UInt8) (m k n : Nat) (h : p.length = n) (hk : k < 8) : (dk p m k).getD (n + 1 + k) 0 = 0 := by
  unfold dk
  subst h
  have e2 : ((be8 m).take k).length = k := by simp [be8_len]; omega
  rw [List.getD_eq_getElem?_getD, List.getElem?_append_right (by omega), show p.length + 1 + k - p.length = k + 1 by omega, List.getElem?_cons_succ, List.getElem?_append_right (by omega), e2, Nat.sub_self,
    show 8 - k = (8 - (k + 1)) + 1 by omega, List.replicate_succ]; rfl
theorem dk_full (p : List UInt8) (m : Nat) : dk p m 8 = dv p m := by
  rw [dk, dv, List.take_of_length_le (by simp [be8_len])]; simp
theorem be8_step (m k : Nat) (hk : k < 8) : (be8 m).take k ++ [UInt8.ofNat (m / 2 ^ (56 - 8 * k))] = (be8 m).take (k + 1) := by
  rw [List.take_succ_eq_append_getElem (by rw [be8_len]; omega)]; simp [be8]
theorem byte_at (c m : Nat) : (c : Int) / 2 ^ m % 256 = ((UInt8.ofNat (c / 2 ^ m)).toNat : Int) := by
  rw [UInt8.toNat_ofNat', Int.natCast_emod, Int.natCast_ediv, Int.natCast_pow]; rfl
/-- a number as 64 bits -/
def u64 (n : Int) : Nat := (IntKind.u64.wrap n).toNat
theorem u64_eq (n : Int) : IntKind.u64.wrap n = (u64 n : Int) := by
  have : 0 ≤ IntKind.u64.wrap n := by
    simp only [IntKind.wrap, IntKind.signed, IntKind.bits]; simp; omega
  unfold u64; omega
def derL (k p : List UInt8) (n : Int) : List UInt8 := tagL k (dv p (u64 n))

set_option maxRecDepth 100000 in
set_option maxHeartbeats 4000000 in
theorem derive_any (s p : ByteArray) (n : Int) (w : World) (hK : Ks w) (hs : s.size ≤ 50000000000000) (hp : p.size ≤ 40000000000000) :
    Calls Tryd.prog 14 #[.string s, .string p, .int .i64 n] w fun e w' => e = .returned (.string (str (derL s.data.toList p.data.toList n))) ∧ Below w.heap.size w w' := by
  have hu := u64_eq n
  obtain ⟨m, hm⟩ : ∃ m, u64 n = m := ⟨_, rfl⟩
  rw [hm] at hu
  obtain ⟨S, hS⟩ : ∃ S, str (tagL s.data.toList (dv p.data.toList m)) = S := ⟨_, rfl⟩
  have e0 : str (derL s.data.toList p.data.toList n) = S := by rw [derL, hm, hS]
  rw [e0]
  obtain ⟨P, hP⟩ : ∃ P, p.data.toList = P := ⟨_, rfl⟩
  obtain ⟨z, hz⟩ : ∃ z, p.size = z := ⟨_, rfl⟩
  have hpl : P.length = z := by rw [← hP, ← hz]; simp
  rw [hP] at hS
  have HS := Lib.hid hS
  have HK := Lib.hid hK
  have HP := Lib.hid hP
  have HPL := Lib.hid hpl
  have HZ := Lib.hid hz
  have HU := Lib.hid hu
  have HSS := Lib.hid hs
  have hz8 : z ≤ 40000000000000 := by omega
  clear hm hS hK hP hpl e0 hu hs hp
  go_enter Tryd.func14, Tryd.ntmps14
  go_wp2_with (first
    | (at_make; refine make_blk rfl _ _ rfl ((z : Int) + 1 + 8) (z + 9) rfl rfl (by omega) (by omega) ?_; intro w1 hb1 hbl1 hsz1; have HB1 := Lib.hid hb1; have HBL1 := Lib.hid hbl1; have HZS := Lib.hid hsz1; clear hb1 hbl1 hsz1)
    | (refine copy_str rfl _ _ rfl _ _ _ p rfl rfl w.heap.size 0 _ HB1.out (by omega) (fun _ => rfl) (by simp) ?_; intro w2 hb2 hu2; rw [HP.out, dk_zero P m z HPL.out] at hb2; have HB2 := Lib.hid hb2; have HBL2 := Lib.hid (HBL1.out.trans (hu2.below (Nat.le_refl _))); have HSZ2 := Lib.hid (show w2.heap.size = w.heap.size + 1 by rw [hu2.size]; exact HZS.out); clear hb2 hu2))
  go_loopw [17] (fun i wr => ∃ k : Nat, i = .int .i64 k ∧ k ≤ 8 ∧ Hid (Blk wr w.heap.size (dk P m k)) ∧ Hid (Below w.heap.size w wr) ∧ Hid (wr.heap.size = w.heap.size + 1)) (fun i _ => 8 - (intOf i).toNat)
  case atStart => exact ⟨0, rfl, by omega, HB2, HBL2, HSZ2⟩
  case round =>
    obtain ⟨k, rfl, hk, HD, HBR, HSZ⟩ := hrel
    by_cases hlt : k < 8
    · have hc := HD.out.cell (z + 1 + k) (by rw [dk_len _ _ _ hk, HPL.out]; omega)
      rw [dk_get P m k z HPL.out hlt] at hc
      have hf := HD.out.frozen (z + 1 + k)
      have hu := HU.out
      have hc' : wr.cell? ⟨w.heap.size, z + 1 + k, none⟩ = some (.int .u8 0) := hc
      clear hc
      go_wp2_with fail
      go_roundw
      case rel =>
        have hset := HD.out.set (z + 1 + k) (UInt8.ofNat (m / 2 ^ (56 - 8 * k)))
        rw [dk_set P m k z HPL.out hlt] at hset
        rw [byte_at m (56 - 8 * k)]
        exact ⟨k + 1, by go_num, by omega, Lib.hid hset, Lib.hid (HBR.out.trans ((Upd.setCell wr w.heap.size _ _).below (Nat.le_refl _))), Lib.hid (by rw [(Upd.setCell wr w.heap.size _ _).size]; exact HSZ.out)⟩
      case measure => simp [intOf]; omega
    · obtain rfl : k = 8 := by omega
      have hp := HD.out
      rw [dk_full] at hp
      have hr := hp.rd' (z + 9) (by rw [dv_len, HPL.out]) (by omega)
      have HR := Lib.hid hr
      clear hp hr
      go_wp2_with fail
      refine (tag_any s _ _ _ (dv P m) wr (HK.out.below HBR.out HK.out.pos) HSS.out HR.out (by omega)).mono ?_
      rw [HS.out]
      rintro e w5 ⟨rfl, hb5⟩
      go_wp2_with fail
      go_ret
      exact ⟨rfl, HBR.out.trans (hb5.mono HBR.out.size)⟩

set_option maxRecDepth 100000 in
set_option maxHeartbeats 4000000 in
theorem rderive_any (s p : ByteArray) (n : Int) (w : World) (hs : s.size ≤ 50000000000000) (hp : p.size ≤ 40000000000000) :
    Calls Tryd.prog 15 #[.string s, .string p, .int .i64 n] w fun e w' => e = .returned (.string (str (derL s.data.toList p.data.toList n))) ∧ Below w.heap.size w w' := by
  have hu := u64_eq n
  obtain ⟨m, hm⟩ : ∃ m, u64 n = m := ⟨_, rfl⟩
  rw [hm] at hu
  obtain ⟨S, hS⟩ : ∃ S, str (tagL s.data.toList (dv p.data.toList m)) = S := ⟨_, rfl⟩
  have e0 : str (derL s.data.toList p.data.toList n) = S := by rw [derL, hm, hS]
  rw [e0]
  obtain ⟨P, hP⟩ : ∃ P, p.data.toList = P := ⟨_, rfl⟩
  obtain ⟨z, hz⟩ : ∃ z, p.size = z := ⟨_, rfl⟩
  have hpl : P.length = z := by rw [← hP, ← hz]; simp
  rw [hP] at hS
  have HS := Lib.hid hS
  have HP := Lib.hid hP
  have HPL := Lib.hid hpl
  have HPM := Lib.hid (show p.size ≤ maxLen by unfold maxLen; omega)
  have HU := Lib.hid hu
  have HSS := Lib.hid hs
  have HZ := Lib.hid hz
  have hz8 : z ≤ 40000000000000 := by omega
  clear hm hS hP hpl e0 hu hs hp hz
  go_enter Tryd.func15, Tryd.ntmps15
  go_wp2_with (first
    | (with_reducible refine conv_frx rfl _ rfl p rfl HPM.out ?_; intro w2 v2 hf2 hb2; rw [HP.out] at hf2; have HF2 := Lib.hid hf2; have HB2 := Lib.hid hb2; clear hf2 hb2)
    | (at_builtin; refine append_frx rfl _ _ rfl w.heap.size _ _ rfl (HF2.out.alloc _) _ _ _ [0] rfl (rd_new w2 [0] _ _ rfl (by decide)) (by rw [HPL.out]; omega) (by have := HB2.out.size; simp; omega) ?_; intro v3 w3 hf3 hb3; obtain ⟨a3, c3, hv3, -⟩ := hf3.form' (z + 1) (by rw [List.length_append, HPL.out]; rfl); subst hv3; have HF3 := Lib.hid hf3; have HB3 := Lib.hid ((HB2.out.alloc HB2.out.size _).trans hb3); clear hf3 hb3))
  have HF0 : Hid (FrX w3 w.heap.size (.slice a3 (z + 1) c3) (P ++ (0 :: (be8 m).take 0))) := HF3
  go_loopw [7, 8] (fun v i wv => ∃ (k n2 c2 : Nat) (a2 : Option Addr), v = .slice a2 n2 c2 ∧ i = .int .i64 (56 - 8 * (k : Int)) ∧ k ≤ 8 ∧ Hid (n2 = z + 1 + k) ∧ Hid (FrX wv w.heap.size (.slice a2 n2 c2) (P ++ (0 :: (be8 m).take k))) ∧ Hid (Below w.heap.size w wv)) (fun _ i _ => (intOf i + 8).toNat)
  case atStart => exact ⟨0, z + 1, c3, a3, rfl, rfl, by omega, Lib.hid rfl, HF0, HB3⟩
  case round =>
    obtain ⟨k, n2, c2, a2, rfl, rfl, hk, HN2, HFK, HBK⟩ := hrel
    by_cases hlt : k < 8
    · have hst := be8_step m k hlt
      have hst2 : (P ++ (0 :: (be8 m).take k) ++ [UInt8.ofNat (m / 2 ^ (56 - 8 * k))] : List UInt8) = P ++ (0 :: (be8 m).take (k + 1)) := by rw [← hst]; simp
      have HST := Lib.hid hst2
      have HLEN := Lib.hid (show (P ++ (0 :: (be8 m).take k) : List UInt8).length = n2 by rw [HN2.out, List.length_append, HPL.out]; simp [be8_len]; omega)
      have HLN3 := Lib.hid (show (P ++ (0 :: (be8 m).take (k + 1)) : List UInt8).length = n2 + 1 by rw [HN2.out, List.length_append, HPL.out]; simp [be8_len]; omega)
      have HBY := Lib.hid (byte_at m (56 - 8 * k))
      have HBS := Lib.hid HBK.out.size
      have hu := HU.out
      clear hst hst2
      go_wp2_with (at_builtin; refine append_frx rfl _ _ rfl w.heap.size _ _ rfl (HFK.out.alloc _) _ _ _ [UInt8.ofNat (m / 2 ^ (56 - 8 * k))] rfl (rd_new _ [UInt8.ofNat (m / 2 ^ (56 - 8 * k))] _ _ (by rw [HBY.out]; rfl) (by simp)) (by rw [HLEN.out, HN2.out]; omega) (by have := HBS.out; simp; omega) ?_; intro v2 w2 hf2 hb2; rw [HST.out] at hf2; obtain ⟨a4, c4, hv4, -⟩ := hf2.form' (n2 + 1) HLN3.out; subst hv4; have HF4 := Lib.hid hf2; have HB4 := Lib.hid ((HBK.out.alloc HBS.out _).trans hb2); clear hf2 hb2)
      go_roundw
      case rel => exact ⟨k + 1, n2 + 1, c4, a4, rfl, vint (by omega), by omega, Lib.hid (by rw [HN2.out]; omega), HF4, HB4⟩
      case measure => simp [intOf]; omega
    · obtain rfl : k = 8 := by omega
      have hff := HFK.out
      have e1 : (P ++ (0 :: (be8 m).take 8) : List UInt8) = dv P m := by rw [dv, List.take_of_length_le (by simp [be8_len])]
      rw [e1] at hff
      obtain ⟨a5, c5, hv5, hr5⟩ := hff.form' n2 (by rw [HN2.out, dv_len, HPL.out])
      simp only [Value.slice.injEq] at hv5
      obtain ⟨q1, -, q3⟩ := hv5
      subst q1 q3
      have HR := Lib.hid hr5
      clear hff hr5 e1
      go_wp2_with fail
      refine (rtag_any s a2 n2 c2 (dv P m) wr HSS.out HR.out (by have := HN2.out; omega)).mono ?_
      rw [HS.out]
      rintro e w5 ⟨rfl, hb5⟩
      go_wp2_with fail
      go_ret
      exact ⟨rfl, HBK.out.trans (hb5.mono HBK.out.size)⟩

set_option maxRecDepth 100000 in
set_option maxHeartbeats 4000000 in
theorem law_HmacDerives (s p : ByteArray) (n : Int) (w : World) (hK : Ks w) (hs : s.size ≤ maxLen) (hp : p.size ≤ maxLen) (_hn : (Lit.int .i64 n).wf = true) :
    Calls Tryd.prog 3 #[.string s, .string p, .int .i64 n] w fun e w' => e = .returned (.bool true) ∧ Below w.heap.size w w' := by
  have HK := Lib.hid hK
  unfold maxLen at hs hp
  clear hK
  by_cases h1 : 500 < s.size
  · go_enter Tryd.func3, Tryd.ntmps3
    go_wp2_with (go_at_call 13; refine (awake4 _ HK.out).mono ?_; rintro e w' ⟨rfl, hb⟩)
    go_ret
    exact ⟨rfl, by assumption⟩
  by_cases h2 : 500 < p.size
  · go_enter Tryd.func3, Tryd.ntmps3
    go_wp2_with (go_at_call 13; refine (awake4 _ HK.out).mono ?_; rintro e w' ⟨rfl, hb⟩)
    go_ret
    exact ⟨rfl, by assumption⟩
  obtain ⟨S, hS⟩ : ∃ S, str (derL s.data.toList p.data.toList n) = S := ⟨_, rfl⟩
  have HS := Lib.hid hS
  clear hS
  go_enter Tryd.func3, Tryd.ntmps3
  go_wp2_with fail
  refine (derive_any s p n w HK.out (by omega) (by omega)).mono ?_
  rw [HS.out]
  rintro e w3 ⟨rfl, hb3⟩
  have HB3 := Lib.hid hb3
  clear hb3
  go_wp2_with fail
  refine (rderive_any s p n w3 (by omega) (by omega)).mono ?_
  rw [HS.out]
  rintro e w4 ⟨rfl, hb4⟩
  have HB4 := Lib.hid (HB3.out.trans (hb4.mono HB3.out.size))
  clear hb4
  go_wp2_with fail
  refine (awake4 w4 (HK.out.below HB4.out HK.out.pos)).mono ?_
  rintro e w5 ⟨rfl, hb5⟩
  go_wp2_with fail
  go_ret
  exact ⟨rfl, HB4.out.trans (hb5.mono HB4.out.size)⟩

end Go.Proofs.YtagblhkihammdaaDoor.W
