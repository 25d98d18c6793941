/- CONTRACTS of layer 4 (hmac): a key's block, a sum behind it, tags. CONTRACTS of layer 4 (hmac): a sum behind a block; tags; awake. -/
import Derived.Test.YtlclkikbocbenaaDoorShaE
import Derived.Lib.ConvBytes
import Derived.Lib.SlBytesConst
set_option linter.unusedSimpArgs false
set_option linter.unusedVariables false
namespace Go.Proofs.YtlclkikbocbenaaDoor.W
open Go.ChangeShapes Go.WideShapes Go.ChangeAt Go.RowKit
open Go.Proofs.YtlclkikbocbenaaDoor.P

/-! ### plain: tags -/
def keyL (k : List UInt8) : List UInt8 := if 64 < k.length then shaL k else k
def kbL (k : List UInt8) : List UInt8 := keyL k ++ List.replicate (64 - (keyL k).length) 0
def xorL (x : UInt8) (b : List UInt8) : List UInt8 := b.map (· ^^^ x)
def behindL (b : List UInt8) (x : UInt8) (t : List UInt8) : List UInt8 := shaL (xorL x b ++ t)
def tagL (k t : List UInt8) : List UInt8 := behindL (kbL k) 92 (behindL (kbL k) 54 t)
theorem keyL_le (k : List UInt8) : (keyL k).length ≤ 64 := by
  unfold keyL; split
  · rw [shaL_len]; omega
  · omega
theorem kbL_len (k : List UInt8) : (kbL k).length = 64 := by
  have := keyL_le k
  simp [kbL]; omega
theorem xorL_len (x : UInt8) (b : List UInt8) : (xorL x b).length = b.length := by simp [xorL]
theorem tagL_len (k t : List UInt8) : (tagL k t).length = 32 := shaL_len _
/-- zeros behind a key, up to 64, are its block's own -/
theorem kbL_pad (k : List UInt8) (n : Nat) (h : k.length + n ≤ 64) : kbL (k ++ List.replicate n 0) = kbL k := by
  unfold kbL keyL
  rw [if_neg (by simp; omega), if_neg (by omega), List.append_assoc, List.replicate_append_replicate]
  congr 2
  simp; omega
theorem tagL_pad (k t : List UInt8) (n : Nat) (h : k.length + n ≤ 64) : tagL (k ++ List.replicate n 0) t = tagL k t := by
  unfold tagL; rw [kbL_pad k n h]

/-! ### memory -/
theorem conv_new (w : World) (s : ByteArray) (h : s.size ≤ maxLen) : ∃ w' c, (Go.convert 9 31 (.string s)).run Tryd.prog w = .ok (.slice (some ⟨w.heap.size, 0, none⟩) s.size c) w' ∧
    Rd w' (some ⟨w.heap.size, 0, none⟩) s.size c s.data.toList ∧ Below w.heap.size w w' ∧ w'.heap.size = w.heap.size + 1 := by
  refine ⟨Lib.bytesWorld w 5 s, grownCap w s.size 0 5, Lib.run_convert_string_bytes w 9 31 5 s Tryd.underlying9 Tryd.underlying31 Tryd.underlying5, ?_, ?_, Lib.bytesWorld_size w _ s⟩
  · refine ⟨by simp, grownCap_ge _ _ _ _, by have := grownCap_le_maxLen w s.size 0 5 h; unfold maxLen at this; omega, (fun h => by cases h), .inr ⟨w.heap.size, 0, rfl, by rw [Lib.bytesWorld_size]; omega, fun i hi => ?_⟩⟩
    rw [Nat.zero_add, Lib.bytesWorld_cell w _ s i hi]
    rfl
  · exact ⟨rfl, rfl, rfl, by rw [Lib.bytesWorld_size]; omega, fun k hk => Lib.bytesWorld_at_old w _ s k hk⟩

/-- CONVERT a string into bytes, in new memory. -/
theorem conv_str {w : World} {ops : Array Oper} {rest : List Oper} {o : Oper} {a : Act} {Q : Exit → Act → World → Prop} (hgd : o.guard = none) (x : Operand)
    (ho : o.op = .convert 9 31 x) (s : ByteArray) (hx : a.eval x = .string s) (hs : s.size ≤ maxLen)
    (h : ∀ w' c, Rd w' (some ⟨w.heap.size, 0, none⟩) s.size c s.data.toList → Below w.heap.size w w' → w'.heap.size = w.heap.size + 1 → wpList Tryd.prog ops Q rest (a.put o.dst (.slice (some ⟨w.heap.size, 0, none⟩) s.size c)) w') :
    wpList Tryd.prog ops Q (o :: rest) a w := by
  obtain ⟨w', c, hrun, hr, hb, hz⟩ := conv_new w s hs
  refine wpList_plain hgd fun K hK => ?_
  unfold Oper.wp
  simp [execOp, ho, hx, hrun, Result.andThen]
  exact hK _ _ (h w' c hr hb hz)

set_option maxRecDepth 100000 in
/-- COPY a string into an array's block. -/
theorem copy_str_row {w : World} {ops : Array Oper} {rest : List Oper} {o : Oper} {a : Act} {Q : Exit → Act → World → Prop} (hgd : o.guard = none) (d s : Operand)
    (ho : o.op = .call { callee := .builtin .copy, args := #[d, s], argTypes := #[31, 9] }) (g off dLen dCap : Nat) (t : ByteArray) (hd : a.eval d = .slice (some ⟨g, off, none⟩) dLen dCap) (hs : a.eval s = .string t)
    (ty : TypeId) (L : List UInt8) (hg : Row w g ty (L.map B)) (hle : t.size ≤ dLen) (hfit : off + t.size ≤ L.length)
    (h : ∀ w', Row w' g ty ((splice L off t.data.toList).map B) → Upd w w' g → wpList Tryd.prog ops Q rest (a.put o.dst (goInt t.size)) w') : wpList Tryd.prog ops Q (o :: rest) a w := by
  have hrun := Lib.run_copy_row_string (P := Tryd.prog) w 31 9 o.type 5 g off dLen dCap t _ _ Tryd.underlying31 infoByte1 hg hle (by simpa using hfit)
  refine wpList_plain hgd fun K hK => ?_
  unfold Oper.wp
  simp [execOp, ho, resolve, invoke, builtin, hd, hs, hrun, Result.andThen]
  refine hK _ _ (h _ ?_ (Upd.setRow _ _ _))
  unfold Row
  rw [setRow_heap w g _ _ _ _ hg]
  congr 2
  simp only [splice, Lib.byteCells, List.map_append, List.map_take, List.map_drop]
  simp
  intro _ _
  rfl

theorem zeroB64' : (Tryd.prog.info? 89).map (·.zero) = some (some (.agg ((List.replicate 64 (0 : UInt8)).map B).toArray)) := by kernel_rfl
theorem splice_key (k : List UInt8) : splice (List.replicate 64 (0 : UInt8)) 0 k = k ++ List.replicate (64 - k.length) 0 := by
  simp only [splice, List.take_zero, List.nil_append, Nat.zero_add, List.drop_replicate]

set_option maxRecDepth 100000 in
set_option maxHeartbeats 4000000 in
theorem key_any (s : ByteArray) (w : World) (hK : Ks w) (hs : s.size ≤ 140737488351232) :
    Calls Tryd.prog 82 #[.string s] w fun e w' => e = .returned (.agg ((kbL s.data.toList).map B).toArray) ∧ Below w.heap.size w w' := by
  obtain ⟨KB, hKB⟩ : ∃ x, kbL s.data.toList = x := ⟨_, rfl⟩
  have hKBl : KB.length = 64 := by rw [← hKB]; exact kbL_len _
  have HKB := Lib.hid hKB
  have HSZ := Lib.hid (show (Tryd.prog.info? 89).map (·.size) = some (KB.map B).length by rw [List.length_map, hKBl]; exact size64b)
  have HOL := Lib.hid (show ((List.replicate 64 (0 : UInt8)).map B).length = (KB.map B).length by rw [List.length_map, List.length_map, hKBl]; rfl)
  have HONE := Lib.hid (B_one KB)
  have HK := Lib.hid hK
  have HSM := Lib.hid (show s.size ≤ maxLen by unfold maxLen; omega)
  have hsl : s.data.toList.length = s.size := by simp
  rw [hKB]
  clear hK hKB hKBl
  by_cases h64 : 64 < s.size
  · have hkey : keyL s.data.toList = shaL s.data.toList := by unfold keyL; rw [if_pos (by rw [hsl]; exact h64)]
    have hspl : splice (List.replicate 64 (0 : UInt8)) 0 (str (shaL s.data.toList)).data.toList = KB := by
      rw [str_data, splice_key, ← HKB.out, kbL, hkey]
    have HSPL := Lib.hid hspl
    obtain ⟨S, hS⟩ : ∃ S, str (shaL s.data.toList) = S := ⟨_, rfl⟩
    have hS32 : S.size = 32 := by rw [← hS, str_size, shaL_len]
    rw [hS] at HSPL
    have HS := Lib.hid hS
    have HS32 := Lib.hid hS32
    have HS64 := Lib.hid (show S.size ≤ 64 ∧ 0 + S.size ≤ (List.replicate 64 (0 : UInt8)).length by rw [hS32]; exact ⟨by decide, by decide⟩)
    clear hkey hspl hS hsl
    go_enter Tryd.func82, Tryd.ntmps82
    go_wp2_with (first
      | (with_reducible refine alloc_row (o := ⟨some 2, _, _, _, _, _⟩) rfl _ rfl _ zeroB64' ?_; intro w1 hr1 hb1 hz1; have HR1 := Lib.hid hr1; clear hr1; have HZ1 := Lib.hid hz1; clear hz1; have HB1 := Lib.hid hb1; clear hb1)
      | (with_reducible refine conv_str rfl _ rfl s rfl HSM.out ?_; intro w2 c2 hr2 hb2 hz2; have HR2 := Lib.hid hr2; have HB2 := Lib.hid (HB1.out.trans (hb2.mono HB1.out.size)); have HRA := Lib.hid (HR1.out.below hb2 HR1.out.lt); clear hr2 hb2 hz2)
      | (go_at_call 88; refine (shasum_any _ _ _ _ _ (HK.out.below HB2.out HK.out.pos) HR2.out (by omega)).mono ?_; rw [HS.out]; rintro e w3 ⟨rfl, hb3⟩; have HB3 := Lib.hid (HB2.out.trans (hb3.mono HB2.out.size)); have HRB := Lib.hid (HRA.out.below hb3 HRA.out.lt); clear hb3)
      | (with_reducible refine alloc_row (o := ⟨some 3, _, _, _, _, _⟩) rfl _ rfl _ zeroB64' ?_; intro w4 hr4 hb4 hz4; have HR4 := Lib.hid hr4; have HRC := Lib.hid (HRB.out.below hb4 HRB.out.lt); have HB4 := Lib.hid (HB3.out.trans (hb4.mono HB3.out.size)); have HNE := Lib.hid (show w.heap.size < w3.heap.size from HRB.out.lt); clear hr4 hb4 hz4)
      | (with_reducible refine copy_str_row (o := ⟨some 12, _, _, _, _, _⟩) rfl _ _ rfl w3.heap.size 0 64 64 S rfl rfl 89 (List.replicate 64 0) HR4.out HS64.out.1 HS64.out.2 ?_; intro w5 hr5 hu5; rw [HSPL.out] at hr5; have HR5 := Lib.hid hr5; have HRD := Lib.hid (HRC.out.upd hu5 (by have := HNE.out; omega)); have HB5 := Lib.hid (HB4.out.trans (hu5.below (Nat.le_of_lt HNE.out))); clear hr5 hu5)
      | (with_reducible refine load_row (o := ⟨some 13, _, _, _, _, _⟩) rfl _ _ rfl _ rfl _ (KB.map B) _ HR5.out Tryd.underlying89 rfl HSZ.out ?_)
      | (with_reducible refine store_row (o := ⟨none, .store 89 _ _, _, _, _, _⟩) rfl _ _ _ rfl _ _ rfl rfl 89 _ HRD.out HSZ.out HOL.out HONE.out ?_; intro w6 hr6 hu6; have HR6 := Lib.hid hr6; have HB6 := Lib.hid (HB5.out.trans (hu6.below (Nat.le_refl _))); clear hr6 hu6))
    refine bodyPost_ret (results_cell_row rfl _ _ w.heap.size 89 (KB.map B).toArray _ (.array 64 5) rfl HR6.out Tryd.underlying89 rfl (by have := HSZ.out; simpa using this)) rfl ⟨rfl, HB6.out⟩
  · have hspl : splice (List.replicate 64 (0 : UInt8)) 0 s.data.toList = KB := by
      rw [splice_key, ← HKB.out, kbL, show keyL s.data.toList = s.data.toList from by unfold keyL; rw [if_neg (by rw [hsl]; exact h64)]]
    have HSPL := Lib.hid hspl
    have HS64 := Lib.hid (show s.size ≤ 64 ∧ 0 + s.size ≤ (List.replicate 64 (0 : UInt8)).length by rw [List.length_replicate]; omega)
    clear hspl hsl
    go_enter Tryd.func82, Tryd.ntmps82
    go_wp2_with (first
      | (with_reducible refine alloc_row (o := ⟨some 2, _, _, _, _, _⟩) rfl _ rfl _ zeroB64' ?_; intro w3 hr1 hb1 hz1; have HRB := Lib.hid hr1; clear hr1; have HB3 := Lib.hid hb1; clear hb1; have HZ3 := Lib.hid hz1; clear hz1)
      | (with_reducible refine alloc_row (o := ⟨some 3, _, _, _, _, _⟩) rfl _ rfl _ zeroB64' ?_; intro w4 hr4 hb4 hz4; have HR4 := Lib.hid hr4; have HRC := Lib.hid (HRB.out.below hb4 HRB.out.lt); have HB4 := Lib.hid (HB3.out.trans (hb4.mono HB3.out.size)); have HNE := Lib.hid (show w.heap.size < w3.heap.size from HRB.out.lt); clear hr4 hb4 hz4)
      | (with_reducible refine copy_str_row (o := ⟨some 12, _, _, _, _, _⟩) rfl _ _ rfl w3.heap.size 0 64 64 s rfl rfl 89 (List.replicate 64 0) HR4.out HS64.out.1 HS64.out.2 ?_; intro w5 hr5 hu5; rw [HSPL.out] at hr5; have HR5 := Lib.hid hr5; have HRD := Lib.hid (HRC.out.upd hu5 (by have := HNE.out; omega)); have HB5 := Lib.hid (HB4.out.trans (hu5.below (Nat.le_of_lt HNE.out))); clear hr5 hu5)
      | (with_reducible refine load_row (o := ⟨some 13, _, _, _, _, _⟩) rfl _ _ rfl _ rfl _ (KB.map B) _ HR5.out Tryd.underlying89 rfl HSZ.out ?_)
      | (with_reducible refine store_row (o := ⟨none, .store 89 _ _, _, _, _, _⟩) rfl _ _ _ rfl _ _ rfl rfl 89 _ HRD.out HSZ.out HOL.out HONE.out ?_; intro w6 hr6 hu6; have HR6 := Lib.hid hr6; have HB6 := Lib.hid (HB5.out.trans (hu6.below (Nat.le_refl _))); clear hr6 hu6))
    refine bodyPost_ret (results_cell_row rfl _ _ w.heap.size 89 (KB.map B).toArray _ (.array 64 5) rfl HR6.out Tryd.underlying89 rfl (by have := HSZ.out; simpa using this)) rfl ⟨rfl, HB6.out⟩

end Go.Proofs.YtlclkikbocbenaaDoor.W

namespace Go.Proofs.YtlclkikbocbenaaDoor.W
open Go.ChangeShapes Go.WideShapes Go.ChangeAt Go.RowKit
open Go.Proofs.YtlclkikbocbenaaDoor.P

theorem xor8 (x y : UInt8) : bits .xor .u8 (x.toNat : Int) (y.toNat : Int) = ((x ^^^ y).toNat : Int) := by
  rw [u8_xor_nat _ _ x.toNat_lt y.toNat_lt, UInt8.toNat_xor]
def mixX (b : List UInt8) (x : UInt8) (k : Nat) : List UInt8 := xorL x (b.take k) ++ b.drop k
theorem mixX_len (b : List UInt8) (x : UInt8) (k : Nat) : (mixX b x k).length = b.length := by simp [mixX, xorL]; omega
theorem mixX_zero (b : List UInt8) (x : UInt8) : mixX b x 0 = b := by simp [mixX, xorL]
theorem mixX_end (b : List UInt8) (x : UInt8) (n : Nat) (h : b.length = n) : mixX b x n = xorL x b := by
  unfold mixX; rw [List.take_of_length_le (by omega), List.drop_of_length_le (by omega), List.append_nil]
theorem mixX_get (b : List UInt8) (x : UInt8) (k : Nat) (h : k < b.length) : (mixX b x k).getD k 0 = b.getD k 0 := by
  unfold mixX
  rw [List.getD_eq_getElem?_getD, List.getElem?_append_right (by simp [xorL]; omega)]
  simp [xorL, show k - min k b.length = 0 by omega]
theorem mixX_set (b : List UInt8) (x : UInt8) (k : Nat) (h : k < b.length) : (mixX b x k).set k (b.getD k 0 ^^^ x) = mixX b x (k + 1) := by
  unfold mixX
  have e : (xorL x (b.take k)).length = k := by simp [xorL]; omega
  rw [List.set_append_right _ _ (by omega), e, Nat.sub_self, List.drop_eq_getElem_cons h, List.set_cons_zero, List.take_succ_eq_append_getElem h]
  have eg : b.getD k 0 = b[k] := by simp [h]
  rw [eg]
  simp only [xorL, List.map_append, List.map_cons, List.map_nil, List.append_assoc, List.cons_append, List.nil_append]

set_option maxRecDepth 100000 in
set_option maxHeartbeats 4000000 in
theorem behind_any (b : List UInt8) (x : UInt8) (a : Option Addr) (len cap : Nat) (t : List UInt8) (w : World) (hK : Ks w) (hb : b.length = 64) (hr : Rd w a len cap t) (hmax : len ≤ 50000000000000) :
    Calls Tryd.prog 83 #[.agg (b.map B).toArray, B x, .slice a len cap] w fun e w' => e = .returned (.string (str (behindL b x t))) ∧ Below w.heap.size w w' := by
  have HK := Lib.hid hK
  have HB64 := Lib.hid hb
  have HR := Lib.hid hr
  have htl := hr.hlen
  have HTL := Lib.hid htl
  have HOLD := Lib.hid (show len ≠ 0 → ∀ b' off, a = some ⟨b', off, none⟩ → b' < w.heap.size from fun h0 b' off he => by
    obtain ⟨b2, o2, he2, hl2, -⟩ := hr.lt_of h0
    rw [he] at he2; simp at he2; omega)
  have hx := x.toNat_lt
  obtain ⟨S, hS⟩ : ∃ S, str (behindL b x t) = S := ⟨_, rfl⟩
  rw [hS]
  have HS0 := Lib.hid hS
  unfold B
  clear hK hb hr htl hS
  go_enter Tryd.func83, Tryd.ntmps83
  go_wp2_with (with_reducible refine box_row (o := ⟨some 3, _, _, _, _, _⟩) rfl _ _ rfl (b.map B) rfl ?_; intro w1 hr1 hb1 hz1; have HR1 := Lib.hid hr1; clear hr1; have HZ1 := Lib.hid hz1; clear hz1; have HB1 := Lib.hid hb1; clear hb1)
  have HS1 := Lib.hid (show (mixX b x 0).map B = b.map B by rw [mixX_zero])
  go_loopw [9] (fun i wr => ∃ k : Nat, k ≤ 64 ∧ i = .int .i64 (k : Int) ∧ Hid (Row wr w.heap.size 89 ((mixX b x k).map B) ∧ Upd w1 wr w.heap.size)) (fun i _ => 64 - (intOf i).toNat)
  case atStart => exact ⟨0, by omega, rfl, Lib.hid ⟨by rw [HS1.out]; exact HR1.out, Upd.refl _ _⟩⟩
  case round =>
    obtain ⟨k, hk, rfl, HJ⟩ := hrel
    obtain ⟨hrow, hu⟩ := HJ.out
    by_cases hlt : k < 64
    · have hkb : k < b.length := by rw [HB64.out]; exact hlt
      have ck : wr.cell? ⟨w.heap.size, k, none⟩ = some (.int .u8 ((b.getD k 0).toNat : Int)) := by
        have := hrow.cell 0 k (by rw [mixX_len]; exact hkb)
        rw [mixX_get b x k hkb] at this
        exact this
      have fk := hrow.frozen k
      have hset := hrow.set k (b.getD k 0 ^^^ x)
      rw [mixX_set b x k hkb] at hset
      have hxo := xor8 (b.getD k 0) x
      have HJ2 := Lib.hid (show Row (wr.setCell ⟨w.heap.size, k, none⟩ (.int .u8 (bits .xor .u8 ((b.getD k 0).toNat : Int) (x.toNat : Int)))) w.heap.size 89 ((mixX b x (k + 1)).map B) ∧ Upd w1 (wr.setCell ⟨w.heap.size, k, none⟩ (.int .u8 (bits .xor .u8 ((b.getD k 0).toNat : Int) (x.toNat : Int)))) w.heap.size from by
        rw [hxo]; exact ⟨hset, hu.trans (Upd.setCell _ _ _ _)⟩)
      have hz := (b.getD k 0).toNat_lt
      generalize (b.getD k 0).toNat = z at *
      clear hset hrow hu HJ hxo hkb
      go_wp2_with fail
      go_roundw
      case rel => exact ⟨k + 1, by omega, by go_num, HJ2⟩
      case measure => simp [intOf]; omega
    · obtain rfl : k = 64 := by omega
      rw [mixX_end b x 64 HB64.out] at hrow
      obtain ⟨X, hX⟩ : ∃ X, xorL x b = X := ⟨_, rfl⟩
      have hXl : X.length = 64 := by rw [← hX, xorL_len]; exact HB64.out
      rw [hX] at hrow
      have HX := Lib.hid hX
      have HXL := Lib.hid hXl
      have HROW := Lib.hid hrow
      have hbw := HB1.out.trans (hu.below (Nat.le_refl _))
      have HBW := Lib.hid hbw
      have HGL := Lib.hid hrow.lt
      have HRW := Lib.hid (HR.out.mono hbw)
      have HS := Lib.hid (show str (shaL ([] ++ X ++ t)) = S by rw [List.nil_append, ← hX, ← HS0.out]; rfl)
      clear hX hXl hrow hu HJ hbw
      go_wp2_with fail
      refine (new_any wr).mono ?_
      rintro e w2 ⟨g, rfl, hg, hht, hb2⟩
      have HG := Lib.hid (show w.heap.size < g ∧ wr.heap.size ≤ g ∧ g ≠ 0 by have := HGL.out; omega)
      have HT2 := Lib.hid hht
      have HB2 := Lib.hid (HBW.out.trans (hb2.mono HBW.out.size))
      have HROW2 := Lib.hid (HROW.out.below hb2 HGL.out)
      have HRW2 := Lib.hid (HRW.out.mono hb2)
      clear hg hht hb2
      go_wp2_with fail
      refine (write_any g (some ⟨w.heap.size, 0, none⟩) 64 64 X [] w2 (HK.out.below HB2.out HK.out.pos) HG.out.2.2 HT2.out (HROW2.out.rd 64 HXL.out (by decide)) (fun _ b' off he => by cases he; have := HG.out.1; omega) (by simp)).mono ?_
      rintro e w3 ⟨rfl, hht3, hgw3⟩
      have HT3 := Lib.hid hht3
      have HRW3 := Lib.hid (HRW2.out.gw hgw3 (fun h0 b' off he => by have := HOLD.out h0 b' off he; have := HG.out.1; omega))
      have HB3 := Lib.hid (HB2.out.trans (hgw3.below (by have := HG.out.1; omega) HB2.out.size))
      clear hht3 hgw3
      go_wp2_with fail
      refine (write_any g a len cap t ([] ++ X) w3 (HK.out.below HB3.out HK.out.pos) HG.out.2.2 HT3.out HRW3.out (fun h0 b' off he => by have := HOLD.out h0 b' off he; have := HG.out.1; omega) (by simp [HXL.out]; omega)).mono ?_
      rintro e w4 ⟨rfl, hht4, hgw4⟩
      have HT4 := Lib.hid hht4
      have HB4 := Lib.hid (HB3.out.trans (hgw4.below (by have := HG.out.1; omega) HB3.out.size))
      clear hht4 hgw4
      go_wp2_with fail
      refine (sum_any g ([] ++ X ++ t) w4 (HK.out.below HB4.out HK.out.pos) HG.out.2.2 HT4.out (by simp [HXL.out, HTL.out]; omega)).mono ?_
      rw [HS.out]
      rintro e w5 ⟨rfl, hb5⟩
      go_wp2_with fail
      go_ret
      exact ⟨rfl, HB4.out.trans (hb5.mono HB4.out.size)⟩

set_option maxRecDepth 100000 in
set_option maxHeartbeats 4000000 in
theorem tag_big (s : ByteArray) (a : Option Addr) (len cap : Nat) (t : List UInt8) (w : World) (hK : Ks w) (hs : s.size ≤ 140737488351232) (hr : Rd w a len cap t) (hmax : len ≤ 50000000000000) :
    Calls Tryd.prog 64 #[.string s, .slice a len cap] w fun e w' => e = .returned (.string (str (tagL s.data.toList t))) ∧ Below w.heap.size w w' := by
  have HK := Lib.hid hK
  have HR := Lib.hid hr
  have HSZ := Lib.hid hs
  obtain ⟨KB, hKB⟩ : ∃ x, kbL s.data.toList = x := ⟨_, rfl⟩
  have hKBl : KB.length = 64 := by rw [← hKB]; exact kbL_len _
  obtain ⟨I, hI⟩ : ∃ x, behindL KB 54 t = x := ⟨_, rfl⟩
  have hIl : I.length = 32 := by rw [← hI]; exact shaL_len _
  obtain ⟨SI, hSI⟩ : ∃ x, str I = x := ⟨_, rfl⟩
  have hSIl : SI.size = 32 := by rw [← hSI, str_size, hIl]
  obtain ⟨S, hS⟩ : ∃ x, str (tagL s.data.toList t) = x := ⟨_, rfl⟩
  rw [hS]
  have HS := Lib.hid (show str (behindL KB 92 SI.data.toList) = S by rw [← hS, ← hSI, str_data, ← hI, ← hKB]; rfl)
  have HKB := Lib.hid hKB
  have HKBL := Lib.hid hKBl
  have HI := Lib.hid (show str (behindL KB 54 t) = SI by rw [hI, hSI])
  have HSM := Lib.hid (show SI.size ≤ maxLen by rw [hSIl]; decide)
  have HS32 := Lib.hid hSIl
  have HSZ64 := Lib.hid (show (Tryd.prog.info? 89).map (·.size) = some (KB.map B).length by rw [List.length_map, hKBl]; exact size64b)
  have HOL := Lib.hid (show ((List.replicate 64 (0 : UInt8)).map B).length = (KB.map B).length by rw [List.length_map, List.length_map, hKBl]; rfl)
  have HONE := Lib.hid (B_one KB)
  clear hK hr hs hKB hKBl hI hIl hSI hSIl hS
  go_enter Tryd.func64, Tryd.ntmps64
  go_wp2_with (first
    | (go_at_call 82; refine (key_any s _ HK.out HSZ.out).mono ?_; rw [HKB.out]; rintro e w1 ⟨rfl, hb1⟩; have HB1 := Lib.hid hb1; clear hb1)
    | (with_reducible refine alloc_row (o := ⟨some 5, _, _, _, _, _⟩) rfl _ rfl _ zeroB64' ?_; intro w2 hr2 hb2 hz2; have HR2 := Lib.hid hr2; have HB2 := Lib.hid (HB1.out.trans (hb2.mono HB1.out.size)); have HL2 := Lib.hid HB1.out.size; clear hr2 hb2 hz2)
    | (with_reducible refine store_row (o := ⟨none, .store 89 _ _, _, _, _, _⟩) rfl _ _ _ rfl _ _ rfl rfl 89 _ HR2.out HSZ64.out HOL.out HONE.out ?_; intro w3 hr3 hu3; have HR3 := Lib.hid hr3; have HB3 := Lib.hid (HB2.out.trans (hu3.below HL2.out)); clear hr3 hu3)
    | (with_reducible refine load_row (o := ⟨some 9, _, _, _, _, _⟩) rfl _ _ rfl _ rfl _ (KB.map B) _ HR3.out Tryd.underlying89 rfl HSZ64.out ?_))
  refine (behind_any KB 54 a len cap t w3 (HK.out.below HB3.out HK.out.pos) HKBL.out (HR.out.mono HB3.out) (by omega)).mono ?_
  rw [HI.out]
  rintro e w4 ⟨rfl, hb4⟩
  have HR4 := Lib.hid (HR3.out.below hb4 HR3.out.lt)
  have HB4 := Lib.hid (HB3.out.trans (hb4.mono HB3.out.size))
  clear hb4
  go_wp2_with (first
    | (with_reducible refine load_row (o := ⟨some 12, _, _, _, _, _⟩) rfl _ _ rfl _ rfl _ (KB.map B) _ HR4.out Tryd.underlying89 rfl HSZ64.out ?_)
    | (with_reducible refine conv_str rfl _ rfl SI rfl HSM.out ?_; intro w5 c5 hr5 hb5 hz5; have HR5 := Lib.hid hr5; have HB5 := Lib.hid (HB4.out.trans (hb5.mono HB4.out.size)); clear hr5 hb5 hz5))
  refine (behind_any KB 92 _ _ _ SI.data.toList w5 (HK.out.below HB5.out HK.out.pos) HKBL.out HR5.out (by have := HS32.out; omega)).mono ?_
  rw [HS.out]
  rintro e w6 ⟨rfl, hb6⟩
  go_wp2_with fail
  go_ret
  exact ⟨rfl, HB5.out.trans (hb6.mono HB5.out.size)⟩

theorem tag_any (s : ByteArray) (a : Option Addr) (len cap : Nat) (t : List UInt8) (w : World) (hK : Ks w) (hs : s.size ≤ 50000000000000) (hr : Rd w a len cap t) (hmax : len ≤ 50000000000000) :
    Calls Tryd.prog 64 #[.string s, .slice a len cap] w fun e w' => e = .returned (.string (str (tagL s.data.toList t))) ∧ Below w.heap.size w w' :=
  tag_big s a len cap t w hK (Nat.le_trans hs (by decide)) hr hmax

end Go.Proofs.YtlclkikbocbenaaDoor.W
