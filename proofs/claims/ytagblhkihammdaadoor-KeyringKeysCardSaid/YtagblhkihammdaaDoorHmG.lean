/- CONTRACTS of the reference's layer 4 (hmac): its tags. -/
import Derived.Test.YtagblhkihammdaaDoorHmF
namespace Go.Proofs.YtagblhkihammdaaDoor.W
open Go.ChangeShapes Go.WideShapes Go.ChangeAt Go.RowKit
open Go.Proofs.YtagblhkihammdaaDoor.P

set_option maxRecDepth 100000 in
set_option maxHeartbeats 4000000 in
theorem rtag_any (s : ByteArray) (a : Option Addr) (len cap : Nat) (t : List UInt8) (w : World) (hs : s.size ≤ 50000000000000) (hr : Rd w a len cap t) (hmax : len ≤ 50000000000000) :
    Calls Tryd.prog 54 #[.string s, .slice a len cap] w fun e w' => e = .returned (.string (str (tagL s.data.toList t))) ∧ Below w.heap.size w w' := by
  have hl := hr.hlen
  have HL := Lib.hid hl
  have HR := Lib.hid hr
  have HSZ := Lib.hid hs
  obtain ⟨KB, hKB⟩ : ∃ x, kbL s.data.toList = x := ⟨_, rfl⟩
  have hKBl : KB.length = 64 := by rw [← hKB]; exact kbL_len _
  obtain ⟨SI, hSI⟩ : ∃ x, str (shaL (xorL 54 KB ++ t)) = x := ⟨_, rfl⟩
  have hSIl : SI.size = 32 := by rw [← hSI, str_size, shaL_len]
  obtain ⟨S, hS⟩ : ∃ x, str (tagL s.data.toList t) = x := ⟨_, rfl⟩
  rw [hS]
  have HS := Lib.hid (show str (shaL (xorL 92 KB ++ SI.data.toList)) = S by rw [← hS, ← hSI, str_data, ← hKB]; rfl)
  have HSI := Lib.hid hSI
  have HSIL := Lib.hid hSIl
  have HKB := Lib.hid hKB
  have HKBL := Lib.hid hKBl
  clear hl hr hs hKB hKBl hSI hSIl hS
  go_enter Tryd.func54, Tryd.ntmps54
  go_wp2_with fail
  refine (rpadded_any s 54 w HSZ.out).mono ?_
  rw [HKB.out]
  rintro e w1 ⟨v1, rfl, hf1, hb1⟩
  obtain ⟨a1, c1, hv1, -⟩ := hf1.form' 64 (by rw [xorL_len]; exact HKBL.out)
  subst hv1
  have HF1 := Lib.hid hf1
  have HB1 := Lib.hid hb1
  have HR1 := Lib.hid (HR.out.mono hb1)
  clear hf1 hb1
  go_wp2_with (at_builtin; refine append_rd rfl _ _ rfl w.heap.size _ _ rfl HF1.out _ _ _ t rfl HR1.out (by rw [xorL_len, HKBL.out]; omega) HB1.out.size ?_; intro v2 w2 hf2 hb2 _; obtain ⟨a2, c2, hv2, hr2⟩ := hf2.form' (64 + len) (by rw [List.length_append, xorL_len, HKBL.out, HL.out]); subst hv2; have HR2 := Lib.hid hr2; have HB2 := Lib.hid (HB1.out.trans hb2); clear hf2 hb2 hr2)
  refine (rsum_any a2 (64 + len) c2 (xorL 54 KB ++ t) w2 HR2.out (by omega)).mono ?_
  rw [HSI.out]
  rintro e w3 ⟨rfl, hb3⟩
  have HB3 := Lib.hid (HB2.out.trans (hb3.mono HB2.out.size))
  clear hb3
  go_wp2_with fail
  refine (rpadded_any s 92 w3 HSZ.out).mono ?_
  rw [HKB.out]
  rintro e w4 ⟨v4, rfl, hf4, hb4⟩
  obtain ⟨a4, c4, hv4, -⟩ := hf4.form' 64 (by rw [xorL_len]; exact HKBL.out)
  subst hv4
  have HF4 := Lib.hid (hf4.base HB3.out.size)
  have HB4 := Lib.hid (HB3.out.trans (hb4.mono HB3.out.size))
  clear hf4 hb4
  go_wp2_with (at_builtin; refine append_str rfl _ _ rfl w.heap.size _ _ rfl HF4.out SI rfl (by rw [xorL_len, HKBL.out, HSIL.out]; omega) HB4.out.size ?_; intro v5 w5 hf5 hb5 _; obtain ⟨a5, c5, hv5, hr5⟩ := hf5.form' 96 (by have h1 := HSIL.out; have h2 := HKBL.out; simp [xorL_len, h1, h2]); subst hv5; have HR5 := Lib.hid hr5; have HB5 := Lib.hid (HB4.out.trans hb5); clear hf5 hb5 hr5)
  refine (rsum_any a5 96 c5 (xorL 92 KB ++ SI.data.toList) w5 HR5.out (by omega)).mono ?_
  rw [HS.out]
  rintro e w6 ⟨rfl, hb6⟩
  go_wp2_with fail
  go_ret
  exact ⟨rfl, HB5.out.trans (hb6.mono HB5.out.size)⟩

end Go.Proofs.YtagblhkihammdaaDoor.W
