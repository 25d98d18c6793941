/- THE LAW KeyringNobody: a ring that no call made has no keys. -/
import Derived.Test.YtagblhkihammdaaDoorKrF
namespace Go.Proofs.YtagblhkihammdaaDoor.W
open Go Go.ChangeShapes Go.WideShapes Go.ChangeAt Go.RowKit

def ringZ : List Value := .bool false :: .string ⟨#[]⟩ :: (ringC ⟨#[]⟩ (fun _ _ => ⟨#[]⟩) (fun _ => false)).drop 2
theorem ring_zero : (Tryd.prog.info? 61).map (·.zero) = some (some (.agg ringZ.toArray)) := by kernel_rfl
theorem tok_nil (lane : Int) (w : World) : Calls Tryd.prog 18 #[.pointer none, .int .i64 lane] w fun e w' => e = .returned (.tuple #[.string ⟨#[]⟩, .int .i64 2]) ∧ Below w.heap.size w w' :=
  (krtoken_any _ _ _ _ _ _ _ w (keysOf_nil lane w)).mono fun _ _ ⟨he, _, hb1, hb⟩ => ⟨he, hb1.trans (hb.mono hb1.size)⟩
theorem get_nil (lane : Int) (w : World) : Calls Tryd.prog 20 #[.pointer none, .int .i64 lane] w fun e w' => e = .returned (.tuple #[.string ⟨#[]⟩, .int .i64 2]) ∧ Below w.heap.size w w' :=
  (krget_any _ _ _ _ _ _ _ w (keysOf_nil lane w)).mono fun _ _ ⟨he, _, hb1, hb⟩ => ⟨he, hb1.trans (hb.mono hb1.size)⟩
theorem put_zero (g : Nat) (lane : Int) (w : World) (hc : w.cell? ⟨g, 0, none⟩ = some (.bool false)) (hlt : g < w.heap.size) : Calls Tryd.prog 19 #[.pointer (some ⟨g, 0, none⟩), .int .i64 lane] w fun e w' => e = .returned (.tuple #[.string ⟨#[]⟩, .int .i64 2]) ∧ Below w.heap.size w w' :=
  (krput_any _ _ _ _ _ _ _ w (keysOf_zero g lane w hc hlt)).mono fun _ _ ⟨he, _, hb1, hb⟩ => ⟨he, hb1.trans (hb.mono hb1.size)⟩

set_option maxRecDepth 100000 in
set_option maxHeartbeats 4000000 in
theorem law_KeyringNobody (lane : Int) (w : World) (hK : Ks w) (_hn : (Lit.int .i64 lane).wf = true) :
    Calls Tryd.prog 7 #[.int .i64 lane] w fun e w' => e = .returned (.bool true) ∧ Below w.heap.size w w' := by
  have HK := Lib.hid hK
  have RZ := Lib.hid ring_zero
  clear hK
  go_enter Tryd.func7, Tryd.ntmps7
  go_wp2_with (refine alloc_row (o := ⟨some 4, _, _, _, _, _⟩) rfl _ rfl _ RZ.out ?_; intro w1 hr1 hb1 hz1; have HR1 := Lib.hid hr1; have HB1 := Lib.hid hb1; clear hr1 hb1 hz1)
  refine (tok_nil lane w1).mono ?_
  rintro e w2 ⟨rfl, hb2⟩
  have HR2 := Lib.hid (HR1.out.below hb2 HR1.out.lt)
  have HB2 := Lib.hid (HB1.out.trans (hb2.mono HB1.out.size))
  clear hb2
  go_wp2_with fail
  refine (put_zero w.heap.size lane w2 HR2.out.k0 HR2.out.lt).mono ?_
  rintro e w3 ⟨rfl, hb3⟩
  have HR3 := Lib.hid (HR2.out.below hb3 HR2.out.lt)
  have HB3 := Lib.hid (HB2.out.trans (hb3.mono HB2.out.size))
  clear hb3
  go_wp2_with fail
  refine (get_nil lane w3).mono ?_
  rintro e w4 ⟨rfl, hb4⟩
  have HR4 := Lib.hid (HR3.out.below hb4 HR3.out.lt)
  have HB4 := Lib.hid (HB3.out.trans (hb4.mono HB3.out.size))
  clear hb4
  have h32 : w4.cell? ⟨w.heap.size, 32, none⟩ = some (.int .i64 0) := by rw [HR4.out.cellV]; rfl
  have H32 := Lib.hid h32
  clear h32
  go_wp2_with fail
  refine (made_nil w4).mono ?_
  rintro e w' ⟨rfl, rfl⟩
  go_wp2_with fail
  refine (made_any w.heap.size 0 w4 H32.out).mono ?_
  rintro e w' ⟨rfl, rfl⟩
  go_wp2_with fail
  refine (awake7 w4 (HK.out.below HB4.out HK.out.pos)).mono ?_
  rintro e w5 ⟨rfl, hb5⟩
  go_wp2_with fail
  go_ret
  exact ⟨rfl, HB4.out.trans (hb5.mono HB4.out.size)⟩

end Go.Proofs.YtagblhkihammdaaDoor.W
