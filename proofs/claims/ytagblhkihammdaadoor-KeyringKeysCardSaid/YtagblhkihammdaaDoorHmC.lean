/- LAYER 4 (hmac): awake; THE LAW HmacPadded. -/
import Derived.Test.YtagblhkihammdaaDoorHmB
namespace Go.Proofs.YtagblhkihammdaaDoor.W
open Go.ChangeShapes Go.WideShapes Go.ChangeAt Go.RowKit
open Go.Proofs.YtagblhkihammdaaDoor.P

def fox : List UInt8 := [84, 104, 101, 32, 113, 117, 105, 99, 107, 32, 98, 114, 111, 119, 110, 32, 102, 111, 120, 32, 106, 117, 109, 112, 115, 32, 111, 118, 101, 114, 32, 116, 104, 101, 32, 108, 97, 122, 121, 32, 100, 111, 103]
theorem fox_tag : tagL [107, 101, 121] fox = [247, 188, 131, 244, 48, 83, 132, 36, 177, 50, 152, 230, 170, 111, 177, 67, 239, 77, 89, 161, 73, 70, 23, 89, 151, 71, 157, 188, 45, 26, 60, 216] := by decide +kernel
/-- bytes in new memory -/
theorem rd_made (w : World) (l : List UInt8) (cs : Array Value) (t : TypeId) (fr : Nat × Nat) (hc : cs = (l.map B).toArray) (hl : l.length ≤ 9223372036854775807) :
    Rd (w.alloc (.cells cs t fr)) (some ⟨w.heap.size, 0, none⟩) l.length l.length l := by
  subst hc
  refine ⟨rfl, Nat.le_refl _, hl, (fun h => by cases h), .inr ⟨_, 0, rfl, by simp, fun i hi => ?_⟩⟩
  rw [World.cell?_alloc_mark]; simp [hi]

set_option maxRecDepth 100000 in
set_option maxHeartbeats 1000000 in
theorem awake4 (w : World) (hK : Ks w) : Calls Tryd.prog 13 #[] w fun e w' => e = .returned (.bool true) ∧ Below w.heap.size w w' := by
  have HK := Lib.hid hK
  have kc := fun (w : World) (C : Array Value) (n c : Nat) => Lib.run_convert_bytes_const (P := Tryd.prog) w 34 5 C n c Tryd.underlying34 Tryd.underlying5
  obtain ⟨S, hS⟩ : ∃ S, str (tagL [107, 101, 121] fox) = S := ⟨_, rfl⟩
  have HS := Lib.hid hS
  have HE := Lib.hid (show (S.toList == [247, 188, 131, 244, 48, 83, 132, 36, 177, 50, 152, 230, 170, 111, 177, 67, 239, 77, 89, 161, 73, 70, 23, 89, 151, 71, 157, 188, 45, 26, 60, 216]) = true by rw [← hS, fox_tag]; decide +kernel)
  have HFX := Lib.hid (show fox.length = 43 from rfl)
  clear hK hS
  go_enter Tryd.func13, Tryd.ntmps13
  go_wp2_with fail
  have hrd : Rd (w.alloc (.cells (fox.map B).toArray 5 (43, 44))) (some ⟨w.heap.size, 0, none⟩) 43 43 fox := rd_made w fox _ _ _ rfl (by decide)
  have hbl : Below w.heap.size w (w.alloc (.cells (fox.map B).toArray 5 (43, 44))) := (Below.refl _ _).alloc (Nat.le_refl _) _
  refine (tag_any ⟨#[107, 101, 121]⟩ _ 43 43 fox _ (HK.out.below hbl HK.out.pos) (by decide) hrd (by decide)).mono ?_
  rw [show str (tagL (ByteArray.mk #[107, 101, 121]).data.toList fox) = S from HS.out]
  rintro e w2 ⟨rfl, hb2⟩
  have HB2 := Lib.hid (hbl.trans (hb2.mono hbl.size))
  have he := HE.out
  clear hrd hbl hb2
  go_wp2_with fail
  go_ret
  exact ⟨by first | rfl | exact one (vbool he), HB2.out⟩


end Go.Proofs.YtagblhkihammdaaDoor.W
