/- LAYER 7 (keyring): awake. -/
import Derived.Test.YtagblhkihammdaaDoorKrE
namespace Go.Proofs.YtagblhkihammdaaDoor.W
open Go Go.ChangeShapes Go.WideShapes Go.ChangeAt Go.RowKit

set_option maxRecDepth 100000 in
theorem made_nil (w : World) : Calls Tryd.prog 22 #[.pointer none] w fun e w' => e = .returned (.int .i64 0) ∧ w = w' := by
  go_enter Tryd.func22, Tryd.ntmps22
  go_wp2_with fail
  go_ret
  exact ⟨rfl, rfl⟩
set_option maxRecDepth 100000 in
theorem made_any (g : Nat) (n : Int) (w : World) (hc : w.cell? ⟨g, 32, none⟩ = some (.int .i64 n)) : Calls Tryd.prog 22 #[.pointer (some ⟨g, 0, none⟩)] w fun e w' => e = .returned (.int .i64 n) ∧ w = w' := by
  go_enter Tryd.func22, Tryd.ntmps22
  go_wp2_with fail
  refine (a64_load g 32 n w hc).mono ?_
  rintro e w' ⟨rfl, rfl⟩
  go_wp2_with fail
  go_ret
  exact ⟨rfl, rfl⟩
theorem made_ring (g : Nat) (m : ByteArray) (K : Nat → Nat → ByteArray) (b : Nat → Bool) (w : World) (h : Ring w g m K b) : Calls Tryd.prog 22 #[.pointer (some ⟨g, 0, none⟩)] w fun e w' => e = .returned (.int .i64 (countV b)) ∧ w = w' :=
  made_any g (countV b) w (by rw [h.row.cellV]; exact ringC_count m K b)

/-- one of the three keys of a lane that there is -/
theorem tok_ok (g : Nat) (m : ByteArray) (K : Nat → Nat → ByteArray) (b : Nat → Bool) (l : Nat) (w : World) (hK : Ks w) (h : Ring w g m K b) (hg0 : g ≠ 0) (hl : l < 5) (hm : m.size ≤ 40000000000000) :
    Calls Tryd.prog 18 #[.pointer (some ⟨g, 0, none⟩), .int .i64 (l : Int)] w fun e w' => e = .returned (.tuple #[.string (K l 0), .int .i64 0]) ∧ Ring w' g m K (upd b l) ∧ Gw g w w' :=
  (krtoken_any _ _ _ _ _ _ _ w (keysOf_ok g m K b l w hK h hg0 hl hm)).mono fun _ _ ⟨he, _, ⟨hr, hg⟩, hb⟩ => ⟨he, hr.below hb, hg.trans (Gw.of_below hb)⟩
theorem put_ok (g : Nat) (m : ByteArray) (K : Nat → Nat → ByteArray) (b : Nat → Bool) (l : Nat) (w : World) (hK : Ks w) (h : Ring w g m K b) (hg0 : g ≠ 0) (hl : l < 5) (hm : m.size ≤ 40000000000000) :
    Calls Tryd.prog 19 #[.pointer (some ⟨g, 0, none⟩), .int .i64 (l : Int)] w fun e w' => e = .returned (.tuple #[.string (K l 1), .int .i64 0]) ∧ Ring w' g m K (upd b l) ∧ Gw g w w' :=
  (krput_any _ _ _ _ _ _ _ w (keysOf_ok g m K b l w hK h hg0 hl hm)).mono fun _ _ ⟨he, _, ⟨hr, hg⟩, hb⟩ => ⟨he, hr.below hb, hg.trans (Gw.of_below hb)⟩
theorem get_ok (g : Nat) (m : ByteArray) (K : Nat → Nat → ByteArray) (b : Nat → Bool) (l : Nat) (w : World) (hK : Ks w) (h : Ring w g m K b) (hg0 : g ≠ 0) (hl : l < 5) (hm : m.size ≤ 40000000000000) :
    Calls Tryd.prog 20 #[.pointer (some ⟨g, 0, none⟩), .int .i64 (l : Int)] w fun e w' => e = .returned (.tuple #[.string (K l 2), .int .i64 0]) ∧ Ring w' g m K (upd b l) ∧ Gw g w w' :=
  (krget_any _ _ _ _ _ _ _ w (keysOf_ok g m K b l w hK h hg0 hl hm)).mono fun _ _ ⟨he, _, ⟨hr, hg⟩, hb⟩ => ⟨he, hr.below hb, hg.trans (Gw.of_below hb)⟩
theorem keysOf_out (g : Nat) (lane : Int) (w : World) (hc : w.cell? ⟨g, 0, none⟩ = some (.bool true)) (hlt : g < w.heap.size) (hl : lane < 0 ∨ 5 ≤ lane) :
    Calls Tryd.prog 55 #[.pointer (some ⟨g, 0, none⟩), .int .i64 lane] w fun e w' => e = .returned (.tuple #[.agg #[.string ⟨#[]⟩, .string ⟨#[]⟩, .string ⟨#[]⟩], .int .i64 1]) ∧ Below w.heap.size w w' :=
  hl.elim (keysOf_low g lane w hc hlt) (keysOf_high g lane w hc hlt)
theorem Ring.made {w : World} {g : Nat} {m : ByteArray} {K : Nat → Nat → ByteArray} {b : Nat → Bool} (h : Ring w g m K b) : w.cell? ⟨g, 0, none⟩ = some (.bool true) := by
  rw [h.row.cellV]; exact ringC_made m K b
theorem tok_out (g : Nat) (lane : Int) (w : World) (hc : w.cell? ⟨g, 0, none⟩ = some (.bool true)) (hlt : g < w.heap.size) (hl : lane < 0 ∨ 5 ≤ lane) :
    Calls Tryd.prog 18 #[.pointer (some ⟨g, 0, none⟩), .int .i64 lane] w fun e w' => e = .returned (.tuple #[.string ⟨#[]⟩, .int .i64 1]) ∧ Below w.heap.size w w' :=
  (krtoken_any _ _ _ _ _ _ _ w (keysOf_out g lane w hc hlt hl)).mono fun _ _ ⟨he, _, hb1, hb⟩ => ⟨he, hb1.trans (hb.mono hb1.size)⟩
theorem put_out (g : Nat) (lane : Int) (w : World) (hc : w.cell? ⟨g, 0, none⟩ = some (.bool true)) (hlt : g < w.heap.size) (hl : lane < 0 ∨ 5 ≤ lane) :
    Calls Tryd.prog 19 #[.pointer (some ⟨g, 0, none⟩), .int .i64 lane] w fun e w' => e = .returned (.tuple #[.string ⟨#[]⟩, .int .i64 1]) ∧ Below w.heap.size w w' :=
  (krput_any _ _ _ _ _ _ _ w (keysOf_out g lane w hc hlt hl)).mono fun _ _ ⟨he, _, hb1, hb⟩ => ⟨he, hb1.trans (hb.mono hb1.size)⟩
theorem get_out (g : Nat) (lane : Int) (w : World) (hc : w.cell? ⟨g, 0, none⟩ = some (.bool true)) (hlt : g < w.heap.size) (hl : lane < 0 ∨ 5 ≤ lane) :
    Calls Tryd.prog 20 #[.pointer (some ⟨g, 0, none⟩), .int .i64 lane] w fun e w' => e = .returned (.tuple #[.string ⟨#[]⟩, .int .i64 1]) ∧ Below w.heap.size w w' :=
  (krget_any _ _ _ _ _ _ _ w (keysOf_out g lane w hc hlt hl)).mono fun _ _ ⟨he, _, hb1, hb⟩ => ⟨he, hb1.trans (hb.mono hb1.size)⟩

theorem two_keys : derL [109] (word3 0) 0 ≠ derL [109] (word3 1) 0 := by decide +kernel
theorem derL_len (k p : List UInt8) (n : Int) : (derL k p n).length = 32 := tagL_len _ _

set_option maxRecDepth 100000 in
set_option maxHeartbeats 4000000 in
theorem awake7 (w : World) (hK : Ks w) : Calls Tryd.prog 17 #[] w fun e w' => e = .returned (.bool true) ∧ Below w.heap.size w w' := by
  have HK := Lib.hid hK
  obtain ⟨K, hKK⟩ : ∃ K, (fun i j => keyV ⟨#[109]⟩ i j) = K := ⟨_, rfl⟩
  have HKK := Lib.hid (show ∀ i j, i < 5 → j < 3 → keyV ⟨#[109]⟩ i j = K i j from fun i j _ _ => by rw [← hKK])
  obtain ⟨a, ha⟩ : ∃ a, K 0 0 = a := ⟨_, rfl⟩
  obtain ⟨b, hb⟩ : ∃ b, K 0 1 = b := ⟨_, rfl⟩
  have hal : a.size = 32 := by rw [← ha, ← hKK]; exact derL_len _ _ _
  have hab : (a.toList == b.toList) = false := by
    rw [ByteArray.toList_eq, ByteArray.toList_eq, beq_eq_false_iff_ne]
    rw [← ha, ← hb, ← hKK]
    exact two_keys
  have HA := Lib.hid ha
  have HB := Lib.hid hb
  have HAL := Lib.hid hal
  have HAB := Lib.hid hab
  have HMS := Lib.hid (show ByteArray.size ⟨#[109]⟩ ≤ 40000000000000 by decide)
  clear hK hKK ha hb hal hab
  go_enter Tryd.func17, Tryd.ntmps17
  go_wp2_with fail
  refine (krnew_any ⟨#[109]⟩ K w HKK.out).mono ?_
  rintro e w1 ⟨rfl, hr1, hb1, hz1⟩
  have HR1 := Lib.hid hr1
  have HB1 := Lib.hid hb1
  have HG0 := Lib.hid (show w.heap.size ≠ 0 by have := HK.out.pos; omega)
  clear hr1 hb1 hz1
  go_wp2_with (go_at_call 22; refine (made_ring _ _ _ _ _ HR1.out).mono ?_; rw [show countV (fun _ => false) = 0 from rfl]; rintro e w' ⟨rfl, rfl⟩)
  refine (tok_ok w.heap.size ⟨#[109]⟩ K _ 0 w1 (HK.out.below HB1.out HK.out.pos) HR1.out HG0.out (by decide) HMS.out).mono ?_
  rw [HA.out]
  rintro e w2 ⟨rfl, hr2, hg2⟩
  have HR2 := Lib.hid hr2
  have HB2 := Lib.hid (HB1.out.trans (hg2.below (Nat.le_refl _) HB1.out.size))
  clear hr2 hg2
  go_wp2_with fail
  refine (put_ok w.heap.size ⟨#[109]⟩ K _ 0 w2 (HK.out.below HB2.out HK.out.pos) HR2.out HG0.out (by decide) HMS.out).mono ?_
  rw [HB.out]
  rintro e w3 ⟨rfl, hr3, hg3⟩
  have HR3 := Lib.hid hr3
  have HB3 := Lib.hid (HB2.out.trans (hg3.below (Nat.le_refl _) HB2.out.size))
  clear hr3 hg3
  go_wp2_with fail
  refine (tok_out w.heap.size 5 w3 HR3.out.made HR3.out.row.lt (by decide)).mono ?_
  rintro e w4 ⟨rfl, hb4⟩
  have HR4 := Lib.hid (HR3.out.below (hb4.mono (Nat.le_refl _)))
  have HB4 := Lib.hid (HB3.out.trans (hb4.mono HB3.out.size))
  clear hb4
  have hal := HAL.out
  have hab := HAB.out
  have hne : (a.toList != b.toList) = true := by simp [bne, hab]
  go_wp2_with (go_at_call 22; refine (made_ring _ _ _ _ _ HR4.out).mono ?_; rw [show countV (upd (upd (fun _ => false) 0) 0) = 1 from rfl]; rintro e w' ⟨rfl, rfl⟩)
  go_ret
  exact ⟨rfl, HB4.out⟩

end Go.Proofs.YtagblhkihammdaaDoor.W
