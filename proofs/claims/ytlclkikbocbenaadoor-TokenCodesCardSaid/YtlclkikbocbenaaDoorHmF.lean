/- CONTRACTS of the reference's layer 4 (hmac): a key's block with a byte added. CONTRACTS of the reference's layer 4 (hmac): its tags. -/
import Derived.Test.YtlclkikbocbenaaDoorHmA
import Derived.Test.YtlclkikbocbenaaDoorShaS
set_option linter.unusedSimpArgs false
set_option linter.unusedVariables false
namespace Go.Proofs.YtlclkikbocbenaaDoor.W
open Go.ChangeShapes Go.WideShapes Go.ChangeAt Go.RowKit
open Go.Proofs.YtlclkikbocbenaaDoor.P

theorem xorL_snoc (x : UInt8) (b : List UInt8) (k : Nat) (h : k < b.length) : xorL x (b.take k) ++ [b.getD k 0 ^^^ x] = xorL x (b.take (k + 1)) := by
  rw [List.take_succ_eq_append_getElem h, show b.getD k 0 = b[k] by simp [h]]
  simp only [xorL, List.map_append, List.map_cons, List.map_nil]
theorem kbL_lo (k : List UInt8) (i : Nat) (h : i < (keyL k).length) : (kbL k).getD i 0 = (keyL k).getD i 0 := by
  unfold kbL; rw [List.getD_eq_getElem?_getD, List.getElem?_append_left h, ← List.getD_eq_getElem?_getD]
theorem kbL_hi (k : List UInt8) (i : Nat) (h : (keyL k).length ≤ i) : (kbL k).getD i 0 = 0 := by
  unfold kbL; rw [List.getD_eq_getElem?_getD, List.getElem?_append_right h]
  by_cases h2 : i - (keyL k).length < 64 - (keyL k).length
  · rw [List.getElem?_replicate_of_lt h2]; rfl
  · rw [List.getElem?_eq_none (by simp; omega)]; rfl

set_option maxRecDepth 100000 in
set_option maxHeartbeats 4000000 in
theorem rpadded_any (s : ByteArray) (x : UInt8) (w : World) (hs : s.size ≤ 50000000000000) :
    Calls Tryd.prog 68 #[.string s, .int .u8 (x.toNat : Int)] w fun e w' => ∃ v, e = .returned v ∧ Fr w' w.heap.size v (xorL x (kbL s.data.toList)) ∧ Below w.heap.size w w' := by
  have hKBl := kbL_len s.data.toList
  have hlo := kbL_lo s.data.toList
  have hhi := kbL_hi s.data.toList
  have hkl := keyL_le s.data.toList
  obtain ⟨KB, hKB⟩ : ∃ x, kbL s.data.toList = x := ⟨_, rfl⟩
  obtain ⟨KY, hKY⟩ : ∃ x, keyL s.data.toList = x := ⟨_, rfl⟩
  obtain ⟨n, hn⟩ : ∃ n, KY.length = n := ⟨_, rfl⟩
  rw [hKB] at hKBl ⊢
  rw [hKB, hKY, hn] at hlo hhi
  rw [hKY, hn] at hkl
  have HLO := Lib.hid hlo
  have HHI := Lib.hid hhi
  have HKBL := Lib.hid hKBl
  have HSM := Lib.hid (show s.size ≤ maxLen by unfold maxLen; omega)
  have hsl : s.data.toList.length = s.size := by simp
  have hx := x.toNat_lt
  have HN := Lib.hid hn
  clear hlo hhi hKBl hKB
  by_cases h64 : 64 < s.size
  · have hkey : keyL s.data.toList = shaL s.data.toList := by unfold keyL; rw [if_pos (by rw [hsl]; exact h64)]
    have hKS : shaL s.data.toList = KY := by rw [← hKY, hkey]
    obtain ⟨S, hS⟩ : ∃ S, str (shaL s.data.toList) = S := ⟨_, rfl⟩
    have hSd : S.data.toList = KY := by rw [← hS, str_data, hKS]
    have hSn : S.size = n := by rw [← hS, str_size, hKS, hn]
    have HS := Lib.hid hS
    have HSD := Lib.hid hSd
    have HSNN := Lib.hid hSn
    have HSM2 := Lib.hid (show S.size ≤ maxLen by rw [hSn]; unfold maxLen; omega)
    clear hkey hKS hsl hn hS hSd hSn hKY
    go_enter Tryd.func68, Tryd.ntmps68
    go_wp2_with (first
      | (with_reducible refine conv_str rfl _ rfl s rfl HSM.out ?_; intro w2 c2 hr2 hb2 hz2; have HR2 := Lib.hid hr2; have HB2 := Lib.hid hb2; clear hr2 hb2 hz2)
      | (go_at_call 67; refine (rsum_any _ _ _ _ w2 HR2.out (by omega)).mono ?_; rw [HS.out]; rintro e w3 ⟨rfl, hb3⟩; have HB3 := Lib.hid (HB2.out.trans (hb3.mono HB2.out.size)); clear hb3)
      | (with_reducible refine conv_str rfl _ rfl S rfl HSM2.out ?_; intro w4 c4 hr4 hb4 hz4; rw [HSD.out, HSNN.out] at hr4; rw [HSNN.out]; have HR4 := Lib.hid hr4; have HB4 := Lib.hid (HB3.out.trans (hb4.mono HB3.out.size)); clear hr4 hb4))
    have hcell : ∀ i, i < n → w4.cell? ⟨w3.heap.size, i, none⟩ = some (.int .u8 ((KY.getD i 0).toNat : Int)) := fun i hi => by
      rcases HR4.out.hcells with h0 | ⟨b, off, he, hlt, hc⟩
      · omega
      · simp at he
        obtain ⟨rfl, rfl⟩ := he
        have := hc i hi
        rw [Nat.zero_add] at this
        exact this
    have HC := Lib.hid hcell
    have HLT := Lib.hid (show w3.heap.size < w4.heap.size by omega)
    clear hcell
    go_loopw [6, 7] (fun v i wr => ∃ (k n2 c2 : Nat) (a2 : Option Addr), v = .slice a2 n2 c2 ∧ i = .int .i64 (k : Int) ∧ k ≤ 64 ∧ Hid (n2 = k) ∧ Hid (Fr wr w4.heap.size (.slice a2 n2 c2) (xorL x (KB.take k))) ∧ Hid (Below w4.heap.size w4 wr)) (fun _ i _ => 64 - (intOf i).toNat)
    case atStart => exact ⟨0, 0, 0, none, rfl, rfl, by omega, Lib.hid rfl, Lib.hid (Fr.nil _ _), Lib.hid (Below.refl _ _)⟩
    case round =>
      obtain ⟨k, n2, c2, a2, rfl, rfl, hk, HN2, HFK, HBK⟩ := hrel
      have h2w : w3.heap.size < w4.heap.size := HLT.out
      by_cases hlt : k < 64
      · have hsn := xorL_snoc x KB k (by rw [HKBL.out]; exact hlt)
        have hlen : (xorL x (KB.take k)).length = k := by rw [xorL_len, List.length_take, HKBL.out]; omega
        have hbs : w4.heap.size ≤ wr.heap.size := HBK.out.size
        have HBS := Lib.hid hbs
        have HLEN := Lib.hid hlen
        have HSN' := Lib.hid hsn
        by_cases hkn : k < n
        · have hc : wr.cell? ⟨w3.heap.size, k, none⟩ = some (.int .u8 ((KY.getD k 0).toNat : Int)) := by
            rw [HBK.out.cell (p := ⟨w3.heap.size, k, none⟩) h2w]; exact HC.out k hkn
          have hxo := xor8 (KY.getD k 0) x
          have hg := HLO.out k hkn
          rw [hg] at hsn
          have HX := Lib.hid hxo
          have HSN2 := Lib.hid hsn
          have hz := (KY.getD k 0).toNat_lt
          clear hsn hlen hbs hxo hg
          generalize (KY.getD k 0).toNat = z at *
          go_wp2_with (at_builtin; refine append_rd rfl _ _ rfl w4.heap.size _ _ rfl (HFK.out.alloc _) _ _ _ [KY.getD k 0 ^^^ x] rfl (rd_new wr [KY.getD k 0 ^^^ x] _ _ (by rw [HX.out]; rfl) (by simp)) (by rw [HLEN.out]; simp; omega) (by have := HBS.out; simp; omega) ?_; intro v3 w5 hf3 hb3 _)
          rw [HSN2.out] at hf3
          have hl3 : (xorL x (KB.take (k + 1))).length = k + 1 := by rw [xorL_len, List.length_take, HKBL.out]; omega
          obtain ⟨a3, c3, hv3, -⟩ := hf3.form' (k + 1) hl3
          subst hv3
          have HF3 := Lib.hid hf3
          have HB3 := Lib.hid ((HBK.out.alloc HBS.out _).trans hb3)
          clear hf3 hb3
          go_wp2_with fail
          go_roundw
          case rel => exact ⟨k + 1, k + 1, c3, a3, rfl, vint (by omega), by omega, Lib.hid rfl, HF3, HB3⟩
          case measure => simp [intOf]; omega
        · have hg := HHI.out k (by omega)
          rw [hg] at hsn
          have hxo : bits .xor .u8 0 (x.toNat : Int) = ((0 ^^^ x).toNat : Int) := xor8 0 x
          have HX := Lib.hid hxo
          have HSN2 := Lib.hid hsn
          clear hsn hlen hbs hxo hg
          go_wp2_with (at_builtin; refine append_rd rfl _ _ rfl w4.heap.size _ _ rfl (HFK.out.alloc _) _ _ _ [0 ^^^ x] rfl (rd_new wr [0 ^^^ x] _ _ (by rw [HX.out]; rfl) (by simp)) (by rw [HLEN.out]; simp; omega) (by have := HBS.out; simp; omega) ?_; intro v3 w5 hf3 hb3 _)
          rw [HSN2.out] at hf3
          have hl3 : (xorL x (KB.take (k + 1))).length = k + 1 := by rw [xorL_len, List.length_take, HKBL.out]; omega
          obtain ⟨a3, c3, hv3, -⟩ := hf3.form' (k + 1) hl3
          subst hv3
          have HF3 := Lib.hid hf3
          have HB3 := Lib.hid ((HBK.out.alloc HBS.out _).trans hb3)
          clear hf3 hb3
          go_wp2_with fail
          go_roundw
          case rel => exact ⟨k + 1, k + 1, c3, a3, rfl, vint (by omega), by omega, Lib.hid rfl, HF3, HB3⟩
          case measure => simp [intOf]; omega
      · obtain rfl : k = 64 := by omega
        have hf := HFK.out
        rw [List.take_of_length_le (by rw [HKBL.out]; omega)] at hf
        have HFF := Lib.hid hf
        have HBB := Lib.hid ((HB4.out).trans (HBK.out.mono HB4.out.size))
        clear hf
        go_wp2_with fail
        go_ret
        exact ⟨_, rfl, HFF.out.base HB4.out.size, HBB.out⟩
  · have hkey : keyL s.data.toList = s.data.toList := by unfold keyL; rw [if_neg (by rw [hsl]; exact h64)]
    have hKS : s.data.toList = KY := by rw [← hKY, hkey]
    have hsn : s.size = n := by rw [← hsl, hKS, hn]
    have HKS := Lib.hid hKS
    have HSN := Lib.hid hsn
    clear hkey hKS hsl hn
    go_enter Tryd.func68, Tryd.ntmps68
    go_wp2_with (first
      | (with_reducible refine conv_str rfl _ rfl s rfl HSM.out ?_; intro w2 c2 hr2 hb2 hz2; rw [HKS.out, HSN.out] at hr2; rw [HSN.out]; have HR2 := Lib.hid hr2; have HB2 := Lib.hid hb2; clear hr2 hb2))
    have hcell : ∀ i, i < n → w2.cell? ⟨w.heap.size, i, none⟩ = some (.int .u8 ((KY.getD i 0).toNat : Int)) := fun i hi => by
      rcases HR2.out.hcells with h0 | ⟨b, off, he, hlt, hc⟩
      · omega
      · simp at he
        obtain ⟨rfl, rfl⟩ := he
        have := hc i hi
        rw [Nat.zero_add] at this
        exact this
    have HC := Lib.hid hcell
    have HLT := Lib.hid (show w.heap.size < w2.heap.size by omega)
    clear hcell
    go_loopw [6, 7] (fun v i wr => ∃ (k n2 c2 : Nat) (a2 : Option Addr), v = .slice a2 n2 c2 ∧ i = .int .i64 (k : Int) ∧ k ≤ 64 ∧ Hid (n2 = k) ∧ Hid (Fr wr w2.heap.size (.slice a2 n2 c2) (xorL x (KB.take k))) ∧ Hid (Below w2.heap.size w2 wr)) (fun _ i _ => 64 - (intOf i).toNat)
    case atStart => exact ⟨0, 0, 0, none, rfl, rfl, by omega, Lib.hid rfl, Lib.hid (Fr.nil _ _), Lib.hid (Below.refl _ _)⟩
    case round =>
      obtain ⟨k, n2, c2, a2, rfl, rfl, hk, HN2, HFK, HBK⟩ := hrel
      have h2w : w.heap.size < w2.heap.size := HLT.out
      by_cases hlt : k < 64
      · have hsn := xorL_snoc x KB k (by rw [HKBL.out]; exact hlt)
        have hlen : (xorL x (KB.take k)).length = k := by rw [xorL_len, List.length_take, HKBL.out]; omega
        have hbs : w2.heap.size ≤ wr.heap.size := HBK.out.size
        have HBS := Lib.hid hbs
        have HLEN := Lib.hid hlen
        have HSN' := Lib.hid hsn
        by_cases hkn : k < n
        · have hc : wr.cell? ⟨w.heap.size, k, none⟩ = some (.int .u8 ((KY.getD k 0).toNat : Int)) := by
            rw [HBK.out.cell (p := ⟨w.heap.size, k, none⟩) h2w]; exact HC.out k hkn
          have hxo := xor8 (KY.getD k 0) x
          have hg := HLO.out k hkn
          rw [hg] at hsn
          have HX := Lib.hid hxo
          have HSN2 := Lib.hid hsn
          have hz := (KY.getD k 0).toNat_lt
          clear hsn hlen hbs hxo hg
          generalize (KY.getD k 0).toNat = z at *
          go_wp2_with (at_builtin; refine append_rd rfl _ _ rfl w2.heap.size _ _ rfl (HFK.out.alloc _) _ _ _ [KY.getD k 0 ^^^ x] rfl (rd_new wr [KY.getD k 0 ^^^ x] _ _ (by rw [HX.out]; rfl) (by simp)) (by rw [HLEN.out]; simp; omega) (by have := HBS.out; simp; omega) ?_; intro v3 w3 hf3 hb3 _)
          rw [HSN2.out] at hf3
          have hl3 : (xorL x (KB.take (k + 1))).length = k + 1 := by rw [xorL_len, List.length_take, HKBL.out]; omega
          obtain ⟨a3, c3, hv3, -⟩ := hf3.form' (k + 1) hl3
          subst hv3
          have HF3 := Lib.hid hf3
          have HB3 := Lib.hid ((HBK.out.alloc HBS.out _).trans hb3)
          clear hf3 hb3
          go_wp2_with fail
          go_roundw
          case rel => exact ⟨k + 1, k + 1, c3, a3, rfl, vint (by omega), by omega, Lib.hid rfl, HF3, HB3⟩
          case measure => simp [intOf]; omega
        · have hg := HHI.out k (by omega)
          rw [hg] at hsn
          have hxo : bits .xor .u8 0 (x.toNat : Int) = ((0 ^^^ x).toNat : Int) := xor8 0 x
          have HX := Lib.hid hxo
          have HSN2 := Lib.hid hsn
          clear hsn hlen hbs hxo hg
          go_wp2_with (at_builtin; refine append_rd rfl _ _ rfl w2.heap.size _ _ rfl (HFK.out.alloc _) _ _ _ [0 ^^^ x] rfl (rd_new wr [0 ^^^ x] _ _ (by rw [HX.out]; rfl) (by simp)) (by rw [HLEN.out]; simp; omega) (by have := HBS.out; simp; omega) ?_; intro v3 w3 hf3 hb3 _)
          rw [HSN2.out] at hf3
          have hl3 : (xorL x (KB.take (k + 1))).length = k + 1 := by rw [xorL_len, List.length_take, HKBL.out]; omega
          obtain ⟨a3, c3, hv3, -⟩ := hf3.form' (k + 1) hl3
          subst hv3
          have HF3 := Lib.hid hf3
          have HB3 := Lib.hid ((HBK.out.alloc HBS.out _).trans hb3)
          clear hf3 hb3
          go_wp2_with fail
          go_roundw
          case rel => exact ⟨k + 1, k + 1, c3, a3, rfl, vint (by omega), by omega, Lib.hid rfl, HF3, HB3⟩
          case measure => simp [intOf]; omega
      · obtain rfl : k = 64 := by omega
        have hf := HFK.out
        rw [List.take_of_length_le (by rw [HKBL.out]; omega)] at hf
        have HFF := Lib.hid hf
        have HBB := Lib.hid ((HB2.out).trans (HBK.out.mono (Nat.le_of_lt h2w)))
        clear hf
        go_wp2_with fail
        go_ret
        exact ⟨_, rfl, HFF.out.base (Nat.le_of_lt HLT.out), HBB.out⟩

end Go.Proofs.YtlclkikbocbenaaDoor.W

namespace Go.Proofs.YtlclkikbocbenaaDoor.W
open Go.ChangeShapes Go.WideShapes Go.ChangeAt Go.RowKit
open Go.Proofs.YtlclkikbocbenaaDoor.P

set_option maxRecDepth 100000 in
set_option maxHeartbeats 4000000 in
theorem rtag_any (s : ByteArray) (a : Option Addr) (len cap : Nat) (t : List UInt8) (w : World) (hs : s.size ≤ 50000000000000) (hr : Rd w a len cap t) (hmax : len ≤ 50000000000000) :
    Calls Tryd.prog 37 #[.string s, .slice a len cap] w fun e w' => e = .returned (.string (str (tagL s.data.toList t))) ∧ Below w.heap.size w w' := by
  have hl := hr.hlen
  have HL := Lib.hid hl
  have HR := Lib.hid hr
  have HSZ := Lib.hid hs
  obtain ⟨KB, hKB⟩ : ∃ x, kbL s.data.toList = x := ⟨_, rfl⟩
  have hKBl : KB.length = 64 := by rw [← hKB]; exact kbL_len _
  obtain ⟨SI, hSI⟩ : ∃ x, str (shaL (xorL 54 KB ++ t)) = x := ⟨_, rfl⟩
  have hSIl : SI.size = 32 := by rw [← hSI, str_size, shaL_len]
  obtain ⟨S, hS⟩ : ∃ x, str (tagL s.data.toList t) = x := ⟨_, rfl⟩
  rw [hS]
  have HS := Lib.hid (show str (shaL (xorL 92 KB ++ SI.data.toList)) = S by rw [← hS, ← hSI, str_data, ← hKB]; rfl)
  have HSI := Lib.hid hSI
  have HSIL := Lib.hid hSIl
  have HKB := Lib.hid hKB
  have HKBL := Lib.hid hKBl
  clear hl hr hs hKB hKBl hSI hSIl hS
  go_enter Tryd.func37, Tryd.ntmps37
  go_wp2_with fail
  refine (rpadded_any s 54 w HSZ.out).mono ?_
  rw [HKB.out]
  rintro e w1 ⟨v1, rfl, hf1, hb1⟩
  obtain ⟨a1, c1, hv1, -⟩ := hf1.form' 64 (by rw [xorL_len]; exact HKBL.out)
  subst hv1
  have HF1 := Lib.hid hf1
  have HB1 := Lib.hid hb1
  have HR1 := Lib.hid (HR.out.mono hb1)
  clear hf1 hb1
  go_wp2_with (at_builtin; refine append_rd rfl _ _ rfl w.heap.size _ _ rfl HF1.out _ _ _ t rfl HR1.out (by rw [xorL_len, HKBL.out]; omega) HB1.out.size ?_; intro v2 w2 hf2 hb2 _; obtain ⟨a2, c2, hv2, hr2⟩ := hf2.form' (64 + len) (by rw [List.length_append, xorL_len, HKBL.out, HL.out]); subst hv2; have HR2 := Lib.hid hr2; have HB2 := Lib.hid (HB1.out.trans hb2); clear hf2 hb2 hr2)
  refine (rsum_any a2 (64 + len) c2 (xorL 54 KB ++ t) w2 HR2.out (by omega)).mono ?_
  rw [HSI.out]
  rintro e w3 ⟨rfl, hb3⟩
  have HB3 := Lib.hid (HB2.out.trans (hb3.mono HB2.out.size))
  clear hb3
  go_wp2_with fail
  refine (rpadded_any s 92 w3 HSZ.out).mono ?_
  rw [HKB.out]
  rintro e w4 ⟨v4, rfl, hf4, hb4⟩
  obtain ⟨a4, c4, hv4, -⟩ := hf4.form' 64 (by rw [xorL_len]; exact HKBL.out)
  subst hv4
  have HF4 := Lib.hid (hf4.base HB3.out.size)
  have HB4 := Lib.hid (HB3.out.trans (hb4.mono HB3.out.size))
  clear hf4 hb4
  go_wp2_with (at_builtin; refine append_str rfl _ _ rfl w.heap.size _ _ rfl HF4.out SI rfl (by rw [xorL_len, HKBL.out, HSIL.out]; omega) HB4.out.size ?_; intro v5 w5 hf5 hb5 _; obtain ⟨a5, c5, hv5, hr5⟩ := hf5.form' 96 (by have h1 := HSIL.out; have h2 := HKBL.out; simp [xorL_len, h1, h2]); subst hv5; have HR5 := Lib.hid hr5; have HB5 := Lib.hid (HB4.out.trans hb5); clear hf5 hb5 hr5)
  refine (rsum_any a5 96 c5 (xorL 92 KB ++ SI.data.toList) w5 HR5.out (by omega)).mono ?_
  rw [HS.out]
  rintro e w6 ⟨rfl, hb6⟩
  go_wp2_with fail
  go_ret
  exact ⟨rfl, HB5.out.trans (hb6.mono HB5.out.size)⟩

end Go.Proofs.YtlclkikbocbenaaDoor.W
