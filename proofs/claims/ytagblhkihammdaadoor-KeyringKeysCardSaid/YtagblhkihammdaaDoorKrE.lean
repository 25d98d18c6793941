/- CONTRACTS of layer 7 (keyring): lanes that there are not; rings that no call made; how many lanes' keys were asked for; awake. -/
import Derived.Test.YtagblhkihammdaaDoorKrD
namespace Go.Proofs.YtagblhkihammdaaDoor.W
open Go Go.ChangeShapes Go.WideShapes Go.ChangeAt Go.RowKit

set_option maxRecDepth 100000 in
set_option maxHeartbeats 1000000 in
theorem keysOf_nil (lane : Int) (w : World)  :
    Calls Tryd.prog 55 #[.pointer none, .int .i64 lane] w fun e w' => e = .returned (.tuple #[.agg #[.string ⟨#[]⟩, .string ⟨#[]⟩, .string ⟨#[]⟩], .int .i64 2]) ∧ Below w.heap.size w w' := by
  have KZ := Lib.hid keys_zero
  have KS := Lib.hid lanes_size

  go_enter Tryd.func55, Tryd.ntmps55
  go_wp2_with (first
    | (with_reducible refine box_cell (o := ⟨some 2, _, _, _, _, _⟩) rfl _ _ rfl (.pointer none) rfl rfl ?_; intro w1 hr1 hb1 hz1; have HR1 := Lib.hid hr1; have HB1 := Lib.hid hb1; have HZ1 := Lib.hid hz1; clear hr1 hb1 hz1)
    | (with_reducible refine box_cell (o := ⟨some 3, _, _, _, _, _⟩) rfl _ _ rfl (.int .i64 lane) rfl rfl ?_; intro w2 hr2 hb2 hz2; have HR2 := Lib.hid hr2; have HR1b := Lib.hid (HR1.out.below hb2 HR1.out.lt); have HB2 := Lib.hid (HB1.out.trans (hb2.mono HB1.out.size)); have HZ2 := Lib.hid hz2; clear hr2 hb2 hz2)
    | (with_reducible refine alloc_row (o := ⟨some 4, _, _, _, _, _⟩) rfl _ rfl _ KZ.out ?_; intro w3 hr3 hb3 hz3; have HR3 := Lib.hid hr3; have HR1c := Lib.hid (HR1b.out.below hb3 HR1b.out.lt); have HR2c := Lib.hid (HR2.out.below hb3 HR2.out.lt); have HB3 := Lib.hid (HB2.out.trans (hb3.mono HB2.out.size)); have HZ3 := Lib.hid hz3; clear hr3 hb3 hz3; have p1 := HR1c.out.k0; have p2 := HR2c.out.k0)
    | (refine store_row (o := ⟨none, _, _, _, _, _⟩) rfl _ _ _ rfl w2.heap.size [.string ⟨#[]⟩, .string ⟨#[]⟩, .string ⟨#[]⟩] (by go_simp) (by go_simp) 53 _ HR3.out KS.out rfl (by intro v hv; simp at hv; rcases hv with rfl | rfl | rfl <;> rfl) ?_; intro w5 hr5 hu5; have HR5 := Lib.hid hr5; have HB5 := Lib.hid (HB3.out.trans (hu5.below (show w.heap.size ≤ w2.heap.size by have := HZ1.out; have := HZ2.out; omega))); clear hr5 hu5))
  all_goals exact bodyPost_ret (results_row_tmp rfl _ _ w2.heap.size 53 _ _ _ (by go_simp) HR5.out Tryd.underlying53 rfl KS.out) rfl ⟨rfl, HB5.out⟩

set_option maxRecDepth 100000 in
set_option maxHeartbeats 1000000 in
theorem keysOf_zero (g : Nat) (lane : Int) (w : World) (hc : w.cell? ⟨g, 0, none⟩ = some (.bool false)) (hlt : g < w.heap.size) :
    Calls Tryd.prog 55 #[.pointer (some ⟨g, 0, none⟩), .int .i64 lane] w fun e w' => e = .returned (.tuple #[.agg #[.string ⟨#[]⟩, .string ⟨#[]⟩, .string ⟨#[]⟩], .int .i64 2]) ∧ Below w.heap.size w w' := by
  have KZ := Lib.hid keys_zero
  have KS := Lib.hid lanes_size
  have HC := Lib.hid hc
  have HLT := Lib.hid hlt
  clear hc hlt
  go_enter Tryd.func55, Tryd.ntmps55
  go_wp2_with (first
    | (with_reducible refine box_cell (o := ⟨some 2, _, _, _, _, _⟩) rfl _ _ rfl (.pointer (some ⟨g, 0, none⟩)) rfl rfl ?_; intro w1 hr1 hb1 hz1; have HR1 := Lib.hid hr1; have HB1 := Lib.hid hb1; have HZ1 := Lib.hid hz1; clear hr1 hb1 hz1)
    | (with_reducible refine box_cell (o := ⟨some 3, _, _, _, _, _⟩) rfl _ _ rfl (.int .i64 lane) rfl rfl ?_; intro w2 hr2 hb2 hz2; have HR2 := Lib.hid hr2; have HR1b := Lib.hid (HR1.out.below hb2 HR1.out.lt); have HB2 := Lib.hid (HB1.out.trans (hb2.mono HB1.out.size)); have HZ2 := Lib.hid hz2; clear hr2 hb2 hz2)
    | (with_reducible refine alloc_row (o := ⟨some 4, _, _, _, _, _⟩) rfl _ rfl _ KZ.out ?_; intro w3 hr3 hb3 hz3; have HR3 := Lib.hid hr3; have HR1c := Lib.hid (HR1b.out.below hb3 HR1b.out.lt); have HR2c := Lib.hid (HR2.out.below hb3 HR2.out.lt); have HB3 := Lib.hid (HB2.out.trans (hb3.mono HB2.out.size)); have HZ3 := Lib.hid hz3; clear hr3 hb3 hz3; have p1 := HR1c.out.k0; have p2 := HR2c.out.k0; have p0 : w3.cell? ⟨g, 0, none⟩ = some (.bool false) := (HB3.out.cell (p := ⟨g, 0, none⟩) HLT.out).trans HC.out)
    | (refine store_row (o := ⟨none, _, _, _, _, _⟩) rfl _ _ _ rfl w2.heap.size [.string ⟨#[]⟩, .string ⟨#[]⟩, .string ⟨#[]⟩] (by go_simp) (by go_simp) 53 _ HR3.out KS.out rfl (by intro v hv; simp at hv; rcases hv with rfl | rfl | rfl <;> rfl) ?_; intro w5 hr5 hu5; have HR5 := Lib.hid hr5; have HB5 := Lib.hid (HB3.out.trans (hu5.below (show w.heap.size ≤ w2.heap.size by have := HZ1.out; have := HZ2.out; omega))); clear hr5 hu5))
  all_goals exact bodyPost_ret (results_row_tmp rfl _ _ w2.heap.size 53 _ _ _ (by go_simp) HR5.out Tryd.underlying53 rfl KS.out) rfl ⟨rfl, HB5.out⟩

set_option maxRecDepth 100000 in
set_option maxHeartbeats 1000000 in
theorem keysOf_low (g : Nat) (lane : Int) (w : World) (hc : w.cell? ⟨g, 0, none⟩ = some (.bool true)) (hlt : g < w.heap.size) (hl : lane < 0) :
    Calls Tryd.prog 55 #[.pointer (some ⟨g, 0, none⟩), .int .i64 lane] w fun e w' => e = .returned (.tuple #[.agg #[.string ⟨#[]⟩, .string ⟨#[]⟩, .string ⟨#[]⟩], .int .i64 1]) ∧ Below w.heap.size w w' := by
  have KZ := Lib.hid keys_zero
  have KS := Lib.hid lanes_size
  have HC := Lib.hid hc
  have HLT := Lib.hid hlt
  clear hc hlt
  go_enter Tryd.func55, Tryd.ntmps55
  go_wp2_with (first
    | (with_reducible refine box_cell (o := ⟨some 2, _, _, _, _, _⟩) rfl _ _ rfl (.pointer (some ⟨g, 0, none⟩)) rfl rfl ?_; intro w1 hr1 hb1 hz1; have HR1 := Lib.hid hr1; have HB1 := Lib.hid hb1; have HZ1 := Lib.hid hz1; clear hr1 hb1 hz1)
    | (with_reducible refine box_cell (o := ⟨some 3, _, _, _, _, _⟩) rfl _ _ rfl (.int .i64 lane) rfl rfl ?_; intro w2 hr2 hb2 hz2; have HR2 := Lib.hid hr2; have HR1b := Lib.hid (HR1.out.below hb2 HR1.out.lt); have HB2 := Lib.hid (HB1.out.trans (hb2.mono HB1.out.size)); have HZ2 := Lib.hid hz2; clear hr2 hb2 hz2)
    | (with_reducible refine alloc_row (o := ⟨some 4, _, _, _, _, _⟩) rfl _ rfl _ KZ.out ?_; intro w3 hr3 hb3 hz3; have HR3 := Lib.hid hr3; have HR1c := Lib.hid (HR1b.out.below hb3 HR1b.out.lt); have HR2c := Lib.hid (HR2.out.below hb3 HR2.out.lt); have HB3 := Lib.hid (HB2.out.trans (hb3.mono HB2.out.size)); have HZ3 := Lib.hid hz3; clear hr3 hb3 hz3; have p1 := HR1c.out.k0; have p2 := HR2c.out.k0; have p0 : w3.cell? ⟨g, 0, none⟩ = some (.bool true) := (HB3.out.cell (p := ⟨g, 0, none⟩) HLT.out).trans HC.out)
    | (refine store_row (o := ⟨none, _, _, _, _, _⟩) rfl _ _ _ rfl w2.heap.size [.string ⟨#[]⟩, .string ⟨#[]⟩, .string ⟨#[]⟩] (by go_simp) (by go_simp) 53 _ HR3.out KS.out rfl (by intro v hv; simp at hv; rcases hv with rfl | rfl | rfl <;> rfl) ?_; intro w5 hr5 hu5; have HR5 := Lib.hid hr5; have HB5 := Lib.hid (HB3.out.trans (hu5.below (show w.heap.size ≤ w2.heap.size by have := HZ1.out; have := HZ2.out; omega))); clear hr5 hu5))
  all_goals exact bodyPost_ret (results_row_tmp rfl _ _ w2.heap.size 53 _ _ _ (by go_simp) HR5.out Tryd.underlying53 rfl KS.out) rfl ⟨rfl, HB5.out⟩

set_option maxRecDepth 100000 in
set_option maxHeartbeats 1000000 in
theorem keysOf_high (g : Nat) (lane : Int) (w : World) (hc : w.cell? ⟨g, 0, none⟩ = some (.bool true)) (hlt : g < w.heap.size) (hl : 5 ≤ lane) :
    Calls Tryd.prog 55 #[.pointer (some ⟨g, 0, none⟩), .int .i64 lane] w fun e w' => e = .returned (.tuple #[.agg #[.string ⟨#[]⟩, .string ⟨#[]⟩, .string ⟨#[]⟩], .int .i64 1]) ∧ Below w.heap.size w w' := by
  have KZ := Lib.hid keys_zero
  have KS := Lib.hid lanes_size
  have HC := Lib.hid hc
  have HLT := Lib.hid hlt
  have h0 : ¬ lane < 0 := by omega
  clear hc hlt
  go_enter Tryd.func55, Tryd.ntmps55
  go_wp2_with (first
    | (with_reducible refine box_cell (o := ⟨some 2, _, _, _, _, _⟩) rfl _ _ rfl (.pointer (some ⟨g, 0, none⟩)) rfl rfl ?_; intro w1 hr1 hb1 hz1; have HR1 := Lib.hid hr1; have HB1 := Lib.hid hb1; have HZ1 := Lib.hid hz1; clear hr1 hb1 hz1)
    | (with_reducible refine box_cell (o := ⟨some 3, _, _, _, _, _⟩) rfl _ _ rfl (.int .i64 lane) rfl rfl ?_; intro w2 hr2 hb2 hz2; have HR2 := Lib.hid hr2; have HR1b := Lib.hid (HR1.out.below hb2 HR1.out.lt); have HB2 := Lib.hid (HB1.out.trans (hb2.mono HB1.out.size)); have HZ2 := Lib.hid hz2; clear hr2 hb2 hz2)
    | (with_reducible refine alloc_row (o := ⟨some 4, _, _, _, _, _⟩) rfl _ rfl _ KZ.out ?_; intro w3 hr3 hb3 hz3; have HR3 := Lib.hid hr3; have HR1c := Lib.hid (HR1b.out.below hb3 HR1b.out.lt); have HR2c := Lib.hid (HR2.out.below hb3 HR2.out.lt); have HB3 := Lib.hid (HB2.out.trans (hb3.mono HB2.out.size)); have HZ3 := Lib.hid hz3; clear hr3 hb3 hz3; have p1 := HR1c.out.k0; have p2 := HR2c.out.k0; have p0 : w3.cell? ⟨g, 0, none⟩ = some (.bool true) := (HB3.out.cell (p := ⟨g, 0, none⟩) HLT.out).trans HC.out)
    | (refine store_row (o := ⟨none, _, _, _, _, _⟩) rfl _ _ _ rfl w2.heap.size [.string ⟨#[]⟩, .string ⟨#[]⟩, .string ⟨#[]⟩] (by go_simp) (by go_simp) 53 _ HR3.out KS.out rfl (by intro v hv; simp at hv; rcases hv with rfl | rfl | rfl <;> rfl) ?_; intro w5 hr5 hu5; have HR5 := Lib.hid hr5; have HB5 := Lib.hid (HB3.out.trans (hu5.below (show w.heap.size ≤ w2.heap.size by have := HZ1.out; have := HZ2.out; omega))); clear hr5 hu5))
  all_goals exact bodyPost_ret (results_row_tmp rfl _ _ w2.heap.size 53 _ _ _ (by go_simp) HR5.out Tryd.underlying53 rfl KS.out) rfl ⟨rfl, HB5.out⟩

end Go.Proofs.YtagblhkihammdaaDoor.W
