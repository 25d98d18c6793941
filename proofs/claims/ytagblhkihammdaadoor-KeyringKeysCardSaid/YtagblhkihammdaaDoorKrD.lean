/- CONTRACTS of layer 7 (keyring): New, Token, Put, Get, Made; a ring that no call made. -/
import Derived.Test.YtagblhkihammdaaDoorKrC
namespace Go.Proofs.YtagblhkihammdaaDoor.W
open Go Go.ChangeShapes Go.WideShapes Go.ChangeAt Go.RowKit

theorem built_ring (m : ByteArray) (K : Nat → Nat → ByteArray) : Tryd.prog.built 61 [(0, .bool true), (1, .string m)] = some (ringC m K (fun _ => false)).toArray := by kernel_rfl

set_option maxRecDepth 100000 in
set_option maxHeartbeats 1000000 in
theorem krnew_any (m : ByteArray) (K : Nat → Nat → ByteArray) (w : World) (hk : ∀ i j, i < 5 → j < 3 → keyV m i j = K i j) :
    Calls Tryd.prog 16 #[.string m] w fun e w' => e = .returned (.pointer (some ⟨w.heap.size, 0, none⟩)) ∧ Ring w' w.heap.size m K (fun _ => false) ∧ Below w.heap.size w w' ∧ w'.heap.size = w.heap.size + 1 := by
  have HBR := Lib.hid (built_ring m K)
  have HKK := Lib.hid hk
  clear hk
  go_enter Tryd.func16, Tryd.ntmps16
  go_wp2_with (first
    | (refine build_row (o := ⟨some 4, _, _, _, _, _⟩) rfl _ _ rfl (ringC m K (fun _ => false)) (by go_simp; exact HBR.out) ?_)
    | (refine box_row (o := ⟨some 5, _, _, _, _, _⟩) rfl _ _ rfl (ringC m K (fun _ => false)) (by go_simp) ?_; intro w1 hr1 hb1 hz1; have HR1 := Lib.hid hr1; have HB1 := Lib.hid hb1; have HZ1 := Lib.hid hz1; clear hr1 hb1 hz1))
  go_ret
  exact ⟨rfl, ⟨HR1.out, HKK.out⟩, HB1.out, HZ1.out⟩

set_option maxRecDepth 100000 in
set_option maxHeartbeats 1000000 in
theorem krtoken_any (r lane : Value) (t p g : ByteArray) (x : Int) (R : World → Prop) (w : World)
    (hk : Calls Tryd.prog 55 #[r, lane] w fun e w' => e = .returned (.tuple #[.agg #[.string t, .string p, .string g], .int .i64 x]) ∧ R w') :
    Calls Tryd.prog 18 #[r, lane] w fun e w' => e = .returned (.tuple #[.string t, .int .i64 x]) ∧ ∃ w1, R w1 ∧ Below w1.heap.size w1 w' := by
  have HK := Lib.hid hk
  have KZ := Lib.hid keys_zero
  have KS := Lib.hid lanes_size
  clear hk
  go_enter Tryd.func18, Tryd.ntmps18
  go_wp2_with fail
  refine HK.out.mono ?_
  rintro e w1 ⟨rfl, hR⟩
  have HR := Lib.hid hR
  clear hR
  go_wp2_with (first
    | (with_reducible refine alloc_row (o := ⟨some 6, _, _, _, _, _⟩) rfl _ rfl _ KZ.out ?_; intro w3 hr3 hb3 hz3; have HR3 := Lib.hid hr3; have HB3 := Lib.hid hb3; clear hr3 hb3 hz3)
    | (refine store_row (o := ⟨none, _, _, _, _, _⟩) rfl _ _ _ rfl w1.heap.size [.string t, .string p, .string g] (by go_simp) (by go_simp) 53 _ HR3.out KS.out rfl (by intro v hv; simp at hv; rcases hv with rfl | rfl | rfl <;> rfl) ?_; intro w5 hr5 hu5; have f0 := hr5.cellV 0; have f1 := hr5.cellV 1; have f2 := hr5.cellV 2; simp only [List.getElem?_cons_zero, List.getElem?_cons_succ] at f0 f1 f2; have HB5 := Lib.hid (HB3.out.trans (hu5.below (Nat.le_refl _))); clear hr5 hu5))
  go_ret2
  exact ⟨rfl, w1, HR.out, HB5.out⟩

set_option maxRecDepth 100000 in
set_option maxHeartbeats 1000000 in
theorem krput_any (r lane : Value) (t p g : ByteArray) (x : Int) (R : World → Prop) (w : World)
    (hk : Calls Tryd.prog 55 #[r, lane] w fun e w' => e = .returned (.tuple #[.agg #[.string t, .string p, .string g], .int .i64 x]) ∧ R w') :
    Calls Tryd.prog 19 #[r, lane] w fun e w' => e = .returned (.tuple #[.string p, .int .i64 x]) ∧ ∃ w1, R w1 ∧ Below w1.heap.size w1 w' := by
  have HK := Lib.hid hk
  have KZ := Lib.hid keys_zero
  have KS := Lib.hid lanes_size
  clear hk
  go_enter Tryd.func19, Tryd.ntmps19
  go_wp2_with fail
  refine HK.out.mono ?_
  rintro e w1 ⟨rfl, hR⟩
  have HR := Lib.hid hR
  clear hR
  go_wp2_with (first
    | (with_reducible refine alloc_row (o := ⟨some 6, _, _, _, _, _⟩) rfl _ rfl _ KZ.out ?_; intro w3 hr3 hb3 hz3; have HR3 := Lib.hid hr3; have HB3 := Lib.hid hb3; clear hr3 hb3 hz3)
    | (refine store_row (o := ⟨none, _, _, _, _, _⟩) rfl _ _ _ rfl w1.heap.size [.string t, .string p, .string g] (by go_simp) (by go_simp) 53 _ HR3.out KS.out rfl (by intro v hv; simp at hv; rcases hv with rfl | rfl | rfl <;> rfl) ?_; intro w5 hr5 hu5; have f0 := hr5.cellV 0; have f1 := hr5.cellV 1; have f2 := hr5.cellV 2; simp only [List.getElem?_cons_zero, List.getElem?_cons_succ] at f0 f1 f2; have HB5 := Lib.hid (HB3.out.trans (hu5.below (Nat.le_refl _))); clear hr5 hu5))
  go_ret2
  exact ⟨rfl, w1, HR.out, HB5.out⟩

set_option maxRecDepth 100000 in
set_option maxHeartbeats 1000000 in
theorem krget_any (r lane : Value) (t p g : ByteArray) (x : Int) (R : World → Prop) (w : World)
    (hk : Calls Tryd.prog 55 #[r, lane] w fun e w' => e = .returned (.tuple #[.agg #[.string t, .string p, .string g], .int .i64 x]) ∧ R w') :
    Calls Tryd.prog 20 #[r, lane] w fun e w' => e = .returned (.tuple #[.string g, .int .i64 x]) ∧ ∃ w1, R w1 ∧ Below w1.heap.size w1 w' := by
  have HK := Lib.hid hk
  have KZ := Lib.hid keys_zero
  have KS := Lib.hid lanes_size
  clear hk
  go_enter Tryd.func20, Tryd.ntmps20
  go_wp2_with fail
  refine HK.out.mono ?_
  rintro e w1 ⟨rfl, hR⟩
  have HR := Lib.hid hR
  clear hR
  go_wp2_with (first
    | (with_reducible refine alloc_row (o := ⟨some 6, _, _, _, _, _⟩) rfl _ rfl _ KZ.out ?_; intro w3 hr3 hb3 hz3; have HR3 := Lib.hid hr3; have HB3 := Lib.hid hb3; clear hr3 hb3 hz3)
    | (refine store_row (o := ⟨none, _, _, _, _, _⟩) rfl _ _ _ rfl w1.heap.size [.string t, .string p, .string g] (by go_simp) (by go_simp) 53 _ HR3.out KS.out rfl (by intro v hv; simp at hv; rcases hv with rfl | rfl | rfl <;> rfl) ?_; intro w5 hr5 hu5; have f0 := hr5.cellV 0; have f1 := hr5.cellV 1; have f2 := hr5.cellV 2; simp only [List.getElem?_cons_zero, List.getElem?_cons_succ] at f0 f1 f2; have HB5 := Lib.hid (HB3.out.trans (hu5.below (Nat.le_refl _))); clear hr5 hu5))
  go_ret2
  exact ⟨rfl, w1, HR.out, HB5.out⟩

end Go.Proofs.YtagblhkihammdaaDoor.W
