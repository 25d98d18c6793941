/- REFUSE: what is thrown, and caught again. -/
import Derived.Test.YtmacjpgeamlmhaaBase
import Derived.Test.YtmacjpgeamlmhaaArr
import Derived.Tactics
import Derived.Tactics2
import Derived.Defers
import Derived.Recover
set_option linter.unusedSimpArgs false
set_option linter.unusedVariables false
namespace Go.Proofs.Ytmacjpgeamlmhaa.W
open Go Go.ChangeShapes Go.WideShapes Go.ChangeAt Go.RowKit

@[reducible] def rfV (e : Int) : Value := .iface 93 (.agg #[.int .i64 e])
@[reducible] def rfP (e : Int) : Ending := .panicked [{ v := rfV e, recovered := false }]
/-- a call that goes through, or throws -/
def rfEnd (b : Bool) (e : Int) : Ending := if b then .returned (.tuple #[]) else rfP e
theorem runless (b : Bool) (e : Int) (w : World) : Calls Try.prog 73 #[.bool b, .int .i64 e] w fun x w' => x = rfEnd b e ∧ w = w' := by
  cases b
  · go_enter Try.func73, Try.ntmps73
    go_wp2
    exact ⟨rfl, rfl, rfl⟩
  · go_enter Try.func73, Try.ntmps73
    go_wp2
    go_end0
    exact ⟨rfl, rfl⟩
theorem rfwith (e : Int) (w : World) : Calls Try.prog 75 #[.int .i64 e] w fun x w' => x = rfEnd (e == 0) e ∧ w = w' := by
  obtain ⟨b, hb⟩ : ∃ b, (e == 0) = b := ⟨_, rfl⟩
  rw [hb]
  cases b
  · have H := Lib.hid (show Calls Try.prog 73 #[.bool false, .int .i64 e] w fun x w' => x = rfP e ∧ w = w' from runless false e w)
    go_enter Try.func75, Try.ntmps75
    go_wp2_with (go_at_call 73; (with_reducible refine H.out.mono ?_); rintro x w' ⟨rfl, rfl⟩)
    exact ⟨rfl, rfl, rfl⟩
  · have H := Lib.hid (show Calls Try.prog 73 #[.bool true, .int .i64 e] w fun x w' => x = .returned (.tuple #[]) ∧ w = w' from runless true e w)
    go_enter Try.func75, Try.ntmps75
    go_wp2_with (go_at_call 73; (with_reducible refine H.out.mono ?_); rintro x w' ⟨rfl, rfl⟩)
    go_end0
    exact ⟨rfl, rfl⟩
theorem rcaught0 (w : World) : Calls Try.prog 39 #[.nilIface] w fun x w' => x = .returned (.int .i64 0) ∧ Below w.heap.size w w' := by
  go_enter Try.func39, Try.ntmps39
  go_wp2
  go_ret
  exact ⟨rfl, Below.refl _ _⟩
theorem refusal_size : (Try.prog.info? 93).map (·.size) = some 1 := by kernel_rfl
theorem refusal_zero : (Try.prog.info? 93).map (·.zero) = some (some (.agg #[.int .i64 0])) := by kernel_rfl
theorem refusal_is (e : Int) (w : World) : (Instr.typeAssert (rfV e) 20 93 true).run Try.prog w = .ok (.tuple #[.agg #[.int .i64 e], .bool true]) w := by kernel_rfl
set_option maxRecDepth 100000 in
theorem rcaught1 (e : Int) (w : World) : Calls Try.prog 39 #[rfV e] w fun x w' => x = .returned (.int .i64 e) ∧ Below w.heap.size w w' := by
  have h := refusal_is e w
  go_enter Try.func39, Try.ntmps39
  go_wp2
  go_ret
  exact ⟨rfl, (Below.refl _ _).alloc (Nat.le_refl _) _⟩
end Go.Proofs.Ytmacjpgeamlmhaa.W
