/- THE LAW KeyringCounts: how many lanes' keys were asked for is told. -/
import Derived.Test.YtagblhkihammdaaDoorKrI
namespace Go.Proofs.YtagblhkihammdaaDoor.W
open Go Go.ChangeShapes Go.WideShapes Go.ChangeAt Go.RowKit

def seenC (b : Nat → Bool) : List Value := [.bool (b 0), .bool (b 1), .bool (b 2), .bool (b 3), .bool (b 4)]
theorem seen_zero : (Tryd.prog.info? 38).map (·.zero) = some (some (.agg (seenC fun _ => false).toArray)) := by kernel_rfl
theorem seen_at (b : Nat → Bool) (l : Nat) (hl : l < 5) : (seenC b)[l]? = some (.bool (b l)) := by
  rcases five l hl with rfl | rfl | rfl | rfl | rfl <;> rfl
theorem seen_set (b : Nat → Bool) (l : Nat) (hl : l < 5) : (seenC b).set l (.bool true) = seenC (upd b l) := by
  rcases five l hl with rfl | rfl | rfl | rfl | rfl <;> simp [seenC, upd]

set_option maxRecDepth 100000 in
set_option maxHeartbeats 4000000 in
theorem law_KeyringCounts (a : Option Addr) (len cap : Nat) (zs : List Int) (w : World) (hK : Ks w) (w1 : IsRow .u8 w a len cap zs) :
    Calls Tryd.prog 6 #[.slice a len cap] w fun x w' => x = .returned (.bool true) ∧ Below w.heap.size w w' := by
  have hr := Rd.of_row w1
  obtain ⟨L, hL⟩ : ∃ l, (zs.take len).map (fun n => UInt8.ofNat n.toNat) = l := ⟨_, rfl⟩
  rw [hL] at hr
  have hle := hr.hle
  have hmax := hr.hmax
  have HR := Lib.hid hr
  have HK := Lib.hid hK
  clear hL w1 hr hK
  obtain ⟨K, hKK⟩ : ∃ K, (fun i j => keyV ⟨#[107]⟩ i j) = K := ⟨_, rfl⟩
  have HKK := Lib.hid (show ∀ i j, i < 5 → j < 3 → keyV ⟨#[107]⟩ i j = K i j from fun i j _ _ => by rw [← hKK])
  have HMS := Lib.hid (show ByteArray.size ⟨#[107]⟩ ≤ 40000000000000 by decide)
  have SZ := Lib.hid seen_zero
  clear hKK
  go_enter Tryd.func6, Tryd.ntmps6
  go_wp2_with fail
  refine (krnew_any ⟨#[107]⟩ K w HKK.out).mono ?_
  rintro e w1 ⟨rfl, hr1, hb1, hz1⟩
  have HR1 := Lib.hid hr1
  have HB1 := Lib.hid hb1
  have HG0 := Lib.hid (show w.heap.size ≠ 0 by have := HK.out.pos; omega)
  have HZ1 := Lib.hid hz1
  clear hr1 hb1 hz1
  go_wp2_with (refine alloc_row (o := ⟨some 4, _, _, _, _, _⟩) rfl _ rfl _ SZ.out ?_; intro w2 hr2 hb2 hz2; have HS2 := Lib.hid hr2; have HR2 := Lib.hid (HR1.out.below hb2); have HB2 := Lib.hid (HB1.out.trans (hb2.mono HB1.out.size)); clear hr2 hb2 hz2)
  go_loopw [5, 13] (fun v i wr => ∃ (k : Nat) (b : Nat → Bool), v = .int .i64 (countV b) ∧ i = .int .i64 (k : Int) ∧ k ≤ len ∧ Hid (Ring wr w.heap.size ⟨#[107]⟩ K b) ∧ Hid (Row wr w1.heap.size 38 (seenC b)) ∧ Hid (Below w.heap.size w wr)) (fun _ i _ => len - (intOf i).toNat)
  case atStart => exact ⟨0, fun _ => false, rfl, rfl, Nat.zero_le _, HR2, HS2, HB2⟩
  case round =>
    obtain ⟨k, b, rfl, rfl, hk, HRG, HSN, HB⟩ := hrel
    by_cases hlt : k < len
    · have hcb := count_bound b
      obtain ⟨bb, off, hae, hblt, hcell⟩ := HR.out.hcells.resolve_left (by omega)
      subst hae
      have hc := hcell k hlt
      obtain ⟨x, hx⟩ : ∃ x, L.getD k 0 = x := ⟨_, rfl⟩
      rw [hx] at hc
      rw [← HB.out.cell (p := ⟨bb, off + k, none⟩) hblt] at hc
      have hx256 := x.toNat_lt
      unfold B at hc
      obtain ⟨z, hz⟩ : ∃ z, x.toNat = z := ⟨_, rfl⟩
      rw [hz] at hc hx256
      clear hcell hx hz
      by_cases h20 : 20 ≤ k
      · go_wp2_with (first
          | (go_at_call 22; refine (made_ring _ _ _ _ _ HRG.out).mono ?_; rintro e w' ⟨rfl, rfl⟩)
          | (go_at_call 17; refine (awake7 wr (HK.out.below HB.out HK.out.pos)).mono ?_; rintro x w7 ⟨rfl, hb7⟩))
        go_ret
        exact ⟨rfl, HB.out.trans (hb7.mono HB.out.size)⟩
      · obtain ⟨l, hl7, e7⟩ : ∃ l : Nat, l < 7 ∧ (z : Int) % 7 = (l : Int) := ⟨z % 7, by omega, by omega⟩
        have HN1 := Lib.hid (show w1.heap.size ≠ w.heap.size by have := HZ1.out; omega)
        by_cases hl5 : l < 5
        · go_wp2_with fail
          refine (get_ok w.heap.size ⟨#[107]⟩ K b l wr (HK.out.below HB.out HK.out.pos) HRG.out HG0.out hl5 HMS.out).mono ?_
          rintro e w3 ⟨rfl, hr3, hg3⟩
          have HR3 := Lib.hid hr3
          have HS3 := Lib.hid (HSN.out.gw hg3 HN1.out)
          have HB3 := Lib.hid (HB.out.trans (hg3.below (Nat.le_refl _) HB.out.size))
          have hs3 : w3.cell? ⟨w1.heap.size, l, none⟩ = some (.bool (b l)) := by rw [HS3.out.cellV]; exact seen_at b l hl5
          have z3 := HS3.out.frozen l
          clear hr3 hg3 hc
          rcases hbl : b l with _ | _
          · rw [hbl] at hs3
            have hcu := count_upd b l hl5 hbl
            have HCU := Lib.hid hcu
            clear hbl hcu
            go_wp2_with fail
            have hup : Upd w3 (w3.setCell ⟨w1.heap.size, l, none⟩ (.bool true)) w1.heap.size := Upd.setCell _ _ _ _
            have hse := HS3.out.setV l (.bool true)
            rw [seen_set b l hl5] at hse
            go_roundw
            case rel => exact ⟨k + 1, upd b l, vint (by rw [HCU.out]), vint (by omega), by omega, Lib.hid ⟨HR3.out.row.upd hup (Ne.symm HN1.out), HR3.out.keys⟩, Lib.hid hse, Lib.hid (HB3.out.trans (hup.below (by have := HZ1.out; omega)))⟩
            case measure => simp [intOf]; omega
          · rw [hbl] at hs3
            have hub := upd_same b l hbl
            rw [hub] at HR3
            clear hbl
            go_wp2_with fail
            go_roundw
            case rel => exact ⟨k + 1, b, rfl, vint (by omega), by omega, HR3, HS3, HB3⟩
            case measure => simp [intOf]; omega
        · go_wp2_with fail
          refine (get_out w.heap.size (l : Int) wr HRG.out.made HRG.out.row.lt (by omega)).mono ?_
          rintro e w3 ⟨rfl, hb3⟩
          have HR3 := Lib.hid (HRG.out.below hb3)
          have HS3 := Lib.hid (HSN.out.below hb3 HSN.out.lt)
          have HB3 := Lib.hid (HB.out.trans (hb3.mono HB.out.size))
          clear hb3 hc
          go_wp2_with fail
          go_roundw
          case rel => exact ⟨k + 1, b, rfl, vint (by omega), by omega, HR3, HS3, HB3⟩
          case measure => simp [intOf]; omega
    · go_wp2_with (first
        | (go_at_call 22; refine (made_ring _ _ _ _ _ HRG.out).mono ?_; rintro e w' ⟨rfl, rfl⟩)
        | (go_at_call 17; refine (awake7 wr (HK.out.below HB.out HK.out.pos)).mono ?_; rintro x w7 ⟨rfl, hb7⟩))
      go_ret
      exact ⟨rfl, HB.out.trans (hb7.mono HB.out.size)⟩

end Go.Proofs.YtagblhkihammdaaDoor.W
