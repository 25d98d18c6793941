/- sync.Once: what Do does, first and later. -/
import Derived.Test.YtagblhkihammdaaDoorKrO
namespace Go.Proofs.YtagblhkihammdaaDoor.W
open Go Go.ChangeShapes Go.WideShapes Go.ChangeAt Go.RowKit

set_option maxRecDepth 100000 in
set_option maxHeartbeats 1600000 in
theorem slow_run (g o : Nat) (caps : Array Value) (R : World → Prop) (w : World)
    (h0 : w.cell? ⟨g, o, none⟩ = some (.int .u32 0)) (h1 : w.cell? ⟨g, o + 1, none⟩ = some (.int .i32 0)) (f1 : w.frozen? ⟨g, o + 1, none⟩ = false)
    (hcl : Calls Tryd.prog 92 caps (w.setCell ⟨g, o + 1, none⟩ (.int .i32 1)) fun e w' => e = .returned (.tuple #[]) ∧ R w')
    (hq : ∀ w', R w' → w'.cell? ⟨g, o, none⟩ = some (.int .u32 0) ∧ w'.cell? ⟨g, o + 1, none⟩ = some (.int .i32 1) ∧ w'.frozen? ⟨g, o, none⟩ = false ∧ w'.frozen? ⟨g, o + 1, none⟩ = false) :
    Calls Tryd.prog 118 #[.pointer (some ⟨g, o, none⟩), .func (.func 92) #[] caps] w fun e w' => e = .returned (.tuple #[]) ∧ ∃ w1, R w1 ∧ w' = (w1.drew.setCell ⟨g, o, none⟩ (.int .u32 1)).setCell ⟨g, o + 1, none⟩ (.int .i32 0) := by
  have hl := run_call_load (P := Tryd.prog) Tryd.func127 (by kernel_rfl) (by kernel_rfl) (by kernel_rfl) .u32 (by kernel_rfl) (w := w.setCell ⟨g, o + 1, none⟩ (.int .i32 1)) (a := ⟨g, o, none⟩) (x := 0) ((World.cell?_setCell_other _ ⟨g, o + 1, none⟩ ⟨g, o, none⟩ _ (by simp)).trans h0)
  have hnot : ∀ (x : Bool) (w : World), (Op.unary .not (.bool x)).run Tryd.prog w = .ok (.bool (!x)) w := fun _ _ => rfl
  have HCL := Lib.hid hcl
  have HQ := Lib.hid hq
  clear hcl hq
  go_enter_defers Tryd.func118, Tryd.ntmps118
  go_wp2_with (first
    | (go_at_call 128; refine (lock_now ⟨g, o + 1, none⟩ _ (by go_simp) (by go_simp)).mono ?_; rintro e w' ⟨rfl, rfl⟩)
    | (go_at_call 117; go_in))
  refine HCL.out.mono ?_
  rintro e w1 ⟨rfl, hR⟩
  obtain ⟨q0, q1, z0, z1⟩ := HQ.out w1 hR
  go_wp2_with fail
  refine leaves_cons (f := 130) (args := #[.pointer (some ⟨g, o, none⟩), .bool true]) (by simp) (by simp [go_sem]) ?_
  refine (done_later ⟨g, o, none⟩ (.int .u32 0) .returning _ q0 z0).mono ?_
  rintro e u' w'' ⟨rfl, rfl, rfl⟩
  refine leaves_cons (f := 129) (args := #[.pointer (some ⟨g, o + 1, none⟩)]) (by simp [settle]) (by simp [go_sem]) ?_
  refine (unlock_later ⟨g, o + 1, none⟩ _ _ ?_ (by simp [z1])).mono ?_
  · refine (World.cell?_setCell_other _ ⟨g, o, none⟩ ⟨g, o + 1, none⟩ _ (by simp)).trans ?_
    rw [World.cell?_drew]
    exact q1
  rintro e u' w'' ⟨rfl, rfl, rfl⟩
  simp only [Leaves, settle, results, Tryd.results118]
  exact ⟨.tuple #[], by simp, rfl, w1, hR, rfl⟩

set_option maxRecDepth 100000 in
set_option maxHeartbeats 1600000 in
theorem do_first (g o : Nat) (caps : Array Value) (R : World → Prop) (w : World)
    (h0 : w.cell? ⟨g, o, none⟩ = some (.int .u32 0)) (h1 : w.cell? ⟨g, o + 1, none⟩ = some (.int .i32 0)) (f1 : w.frozen? ⟨g, o + 1, none⟩ = false)
    (hcl : Calls Tryd.prog 92 caps (w.setCell ⟨g, o + 1, none⟩ (.int .i32 1)) fun e w' => e = .returned (.tuple #[]) ∧ R w')
    (hq : ∀ w', R w' → w'.cell? ⟨g, o, none⟩ = some (.int .u32 0) ∧ w'.cell? ⟨g, o + 1, none⟩ = some (.int .i32 1) ∧ w'.frozen? ⟨g, o, none⟩ = false ∧ w'.frozen? ⟨g, o + 1, none⟩ = false) :
    Calls Tryd.prog 91 #[.pointer (some ⟨g, o, none⟩), .func (.func 92) #[] caps] w fun e w' => e = .returned (.tuple #[]) ∧ ∃ w1, R w1 ∧ w' = (w1.drew.setCell ⟨g, o, none⟩ (.int .u32 1)).setCell ⟨g, o + 1, none⟩ (.int .i32 0) := by
  have HS := Lib.hid (slow_run g o caps R w h0 h1 f1 hcl hq)
  have hl := run_call_load (P := Tryd.prog) Tryd.func127 (by kernel_rfl) (by kernel_rfl) (by kernel_rfl) .u32 (by kernel_rfl) h0
  have hnot : ∀ (x : Bool) (w : World), (Op.unary .not (.bool x)).run Tryd.prog w = .ok (.bool (!x)) w := fun _ _ => rfl
  clear hcl hq
  go_enter Tryd.func91, Tryd.ntmps91
  go_wp2_with (first
    | (go_at_call 118; refine HS.out.mono ?_; rintro e w' ⟨rfl, w1, hR, rfl⟩)
    | (go_at_call 117; go_in))
  go_end0
  exact ⟨rfl, w1, hR, rfl⟩

set_option maxRecDepth 100000 in
set_option maxHeartbeats 1600000 in
theorem do_done (g o : Nat) (fv : Value) (w : World) (h0 : w.cell? ⟨g, o, none⟩ = some (.int .u32 1)) :
    Calls Tryd.prog 91 #[.pointer (some ⟨g, o, none⟩), fv] w fun e w' => e = .returned (.tuple #[]) ∧ w' = w := by
  have hl := run_call_load (P := Tryd.prog) Tryd.func127 (by kernel_rfl) (by kernel_rfl) (by kernel_rfl) .u32 (by kernel_rfl) h0
  have hnot : ∀ (x : Bool) (w : World), (Op.unary .not (.bool x)).run Tryd.prog w = .ok (.bool (!x)) w := fun _ _ => rfl
  go_enter Tryd.func91, Tryd.ntmps91
  go_wp2_with (go_at_call 117; go_in)
  go_end0
  exact ⟨rfl, rfl⟩

end Go.Proofs.YtagblhkihammdaaDoor.W
