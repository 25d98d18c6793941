/- LAYER 4 (hmac): awake; THE LAW HmacPadded. -/
import Derived.Test.YtembbdlkpdnekaaDoorHmB
namespace Go.Proofs.YtembbdlkpdnekaaDoor.W
open Go.ChangeShapes Go.WideShapes Go.ChangeAt Go.RowKit
open Go.Proofs.YtembbdlkpdnekaaDoor.P

def fox : List UInt8 := [84, 104, 101, 32, 113, 117, 105, 99, 107, 32, 98, 114, 111, 119, 110, 32, 102, 111, 120, 32, 106, 117, 109, 112, 115, 32, 111, 118, 101, 114, 32, 116, 104, 101, 32, 108, 97, 122, 121, 32, 100, 111, 103]
theorem fox_tag : tagL [107, 101, 121] fox = [247, 188, 131, 244, 48, 83, 132, 36, 177, 50, 152, 230, 170, 111, 177, 67, 239, 77, 89, 161, 73, 70, 23, 89, 151, 71, 157, 188, 45, 26, 60, 216] := by decide +kernel
/-- bytes in new memory -/
theorem rd_made (w : World) (l : List UInt8) (cs : Array Value) (t : TypeId) (fr : Nat × Nat) (hc : cs = (l.map B).toArray) (hl : l.length ≤ 9223372036854775807) :
    Rd (w.alloc (.cells cs t fr)) (some ⟨w.heap.size, 0, none⟩) l.length l.length l := by
  subst hc
  refine ⟨rfl, Nat.le_refl _, hl, (fun h => by cases h), .inr ⟨_, 0, rfl, by simp, fun i hi => ?_⟩⟩
  rw [World.cell?_alloc_mark]; simp [hi]

set_option maxRecDepth 100000 in
set_option maxHeartbeats 1000000 in
theorem awake4 (w : World) (hK : Ks w) : Calls Tryd.prog 28 #[] w fun e w' => e = .returned (.bool true) ∧ Below w.heap.size w w' := by
  have HK := Lib.hid hK
  have kc := fun (w : World) (C : Array Value) (n c : Nat) => Lib.run_convert_bytes_const (P := Tryd.prog) w 29 5 C n c Tryd.underlying29 Tryd.underlying5
  obtain ⟨S, hS⟩ : ∃ S, str (tagL [107, 101, 121] fox) = S := ⟨_, rfl⟩
  have HS := Lib.hid hS
  have HE := Lib.hid (show (S.toList == [247, 188, 131, 244, 48, 83, 132, 36, 177, 50, 152, 230, 170, 111, 177, 67, 239, 77, 89, 161, 73, 70, 23, 89, 151, 71, 157, 188, 45, 26, 60, 216]) = true by rw [← hS, fox_tag]; decide +kernel)
  have HFX := Lib.hid (show fox.length = 43 from rfl)
  clear hK hS
  go_enter Tryd.func28, Tryd.ntmps28
  go_wp2_with fail
  have hrd : Rd (w.alloc (.cells (fox.map B).toArray 5 (43, 44))) (some ⟨w.heap.size, 0, none⟩) 43 43 fox := rd_made w fox _ _ _ rfl (by decide)
  have hbl : Below w.heap.size w (w.alloc (.cells (fox.map B).toArray 5 (43, 44))) := (Below.refl _ _).alloc (Nat.le_refl _) _
  refine (tag_any ⟨#[107, 101, 121]⟩ _ 43 43 fox _ (HK.out.below hbl HK.out.pos) (by decide) hrd (by decide)).mono ?_
  rw [show str (tagL (ByteArray.mk #[107, 101, 121]).data.toList fox) = S from HS.out]
  rintro e w2 ⟨rfl, hb2⟩
  have HB2 := Lib.hid (hbl.trans (hb2.mono hbl.size))
  have he := HE.out
  clear hrd hbl hb2
  go_wp2_with fail
  go_ret
  exact ⟨by first | rfl | exact one (vbool he), HB2.out⟩

set_option maxRecDepth 100000 in
set_option maxHeartbeats 4000000 in
theorem law_HmacPadded (s : ByteArray) (n : Int) (a : Option Addr) (len cap : Nat) (zs : List Int) (w : World) (hK : Ks w) (hs : s.size ≤ maxLen) (hn : (Lit.int .u8 n).wf = true) (w1 : IsRow .u8 w a len cap zs) :
    Calls Tryd.prog 12 #[.string s, .int .u8 n, .slice a len cap] w fun e w' => e = .returned (.bool true) ∧ Below w.heap.size w w' := by
  have hr := Rd.of_row w1
  obtain ⟨l, hl⟩ : ∃ l, (zs.take len).map (fun n => UInt8.ofNat n.toNat) = l := ⟨_, rfl⟩
  rw [hl] at hr
  obtain ⟨n0, n1⟩ := bd8 hn
  have hle := hr.hle
  have hmax := hr.hmax
  have HR := Lib.hid hr
  have HK := Lib.hid hK
  unfold maxLen at hs
  clear hl w1 hr hK hn
  by_cases h1 : 64 < s.size
  · go_enter Tryd.func12, Tryd.ntmps12
    go_wp2_with (go_at_call 28; refine (awake4 _ HK.out).mono ?_; rintro e w' ⟨rfl, hb⟩)
    go_ret
    exact ⟨rfl, by assumption⟩
  · by_cases h2 : 1500 < len
    · go_enter Tryd.func12, Tryd.ntmps12
      go_wp2_with (go_at_call 28; refine (awake4 _ HK.out).mono ?_; rintro e w' ⟨rfl, hb⟩)
      go_ret
      exact ⟨rfl, by assumption⟩
    · have hmod0 : 0 ≤ n % (65 - (s.size : Int)) := Int.emod_nonneg _ (by omega)
      have hmod1 : n % (65 - (s.size : Int)) < 65 - (s.size : Int) := Int.emod_lt_of_pos _ (by omega)
      obtain ⟨m, hm⟩ : ∃ m : Nat, n % (65 - (s.size : Int)) = (m : Int) := ⟨(n % (65 - (s.size : Int))).toNat, by omega⟩
      have hm64 : s.size + m ≤ 64 := by omega
      have HM := Lib.hid hm
      have hcat : ¬ 9223372036854775807 < s.size + (str (List.replicate m 0)).size := by rw [str_size, List.length_replicate]; omega
      have HMX := Lib.hid (show m ≤ 9223372036854775807 by omega)
      clear hmod0 hmod1 hm
      go_enter Tryd.func12, Tryd.ntmps12
      go_wp2_with (with_reducible refine make_blk (o := ⟨some 24, _, _, _, _, _⟩) rfl _ _ rfl _ m rfl rfl HM.out (by omega) ?_; intro w2 hk2 hb2 hz2; have HB2 := Lib.hid hb2; have hcv := conv_rd (hk2.rd' m List.length_replicate HMX.out); clear hk2 hb2 hz2)
      obtain ⟨S, hS⟩ : ∃ S, str (tagL s.data.toList l) = S := ⟨_, rfl⟩
      have HT1 := Lib.hid (show str (tagL (s ++ str (List.replicate m 0)).data.toList l) = S by
        rw [← hS, ← tagL_pad s.data.toList l m (by simp; omega)]; congr 2 <;> simp [str])
      have HT2 := Lib.hid hS
      have HSL := Lib.hid (show (s ++ str (List.replicate m 0)).size ≤ 50000000000000 by rw [ByteArray.size_append, str_size, List.length_replicate]; omega)
      clear hS hcv hcat
      refine (tag_any _ a len cap l w2 (HK.out.below HB2.out HK.out.pos) HSL.out (HR.out.mono HB2.out) (by omega)).mono ?_
      rw [HT1.out]
      rintro e w3 ⟨rfl, hb3⟩
      have HB3 := Lib.hid (HB2.out.trans (hb3.mono HB2.out.size))
      clear hb3
      go_wp2_with fail
      refine (tag_any s a len cap l w3 (HK.out.below HB3.out HK.out.pos) (by omega) (HR.out.mono HB3.out) (by omega)).mono ?_
      rw [HT2.out]
      rintro e w4 ⟨rfl, hb4⟩
      have HB4 := Lib.hid (HB3.out.trans (hb4.mono HB3.out.size))
      clear hb4
      go_wp2_with fail
      refine (awake4 w4 (HK.out.below HB4.out HK.out.pos)).mono ?_
      rintro e w5 ⟨rfl, hb5⟩
      go_wp2_with fail
      go_ret
      exact ⟨rfl, HB4.out.trans (hb5.mono HB4.out.size)⟩

end Go.Proofs.YtembbdlkpdnekaaDoor.W
