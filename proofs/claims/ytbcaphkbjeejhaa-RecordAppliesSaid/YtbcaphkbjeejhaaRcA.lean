/- LAYER 11 (record): awake; entries and records that came in; the law RecordEntries. -/
import Derived.Test.YtbcaphkbjeejhaaRcE
import Derived.Test.YtbcaphkbjeejhaaRcR
import Derived.Lib.SlBytesConst
set_option linter.unusedSimpArgs false
set_option linter.unusedVariables false
namespace Go.Proofs.Ytbcaphkbjeejhaa.W
open Go Go.ChangeShapes Go.WideShapes Go.ChangeAt Go.RowKit
open Go.Proofs.Ytbcaphkbjeejhaa.P (enc dec)

theorem built_a : Try.prog.built 29 [(0, .int .i64 2), (1, .int .i64 3), (2, .int .i64 2)] = some (Rc.cells ⟨2, 3, 2, ⟨0, 0, 0, none, 0, 0⟩, 0, 0, none, 0, 0⟩).toArray := by kernel_rfl
theorem chk_a : chkR ⟨2, 3, 2, ⟨0, 0, 0, none, 0, 0⟩, 0, 0, none, 0, 0⟩ [] [] = 0 := by decide +kernel
theorem enc_a : encV ⟨2, 3, 2, ⟨0, 0, 0, none, 0, 0⟩, 0, 0, none, 0, 0⟩ [] [] = [2, 3, 2] := by
  unfold encV
  rw [chk_a, if_pos rfl]
  decide +kernel
set_option maxRecDepth 100000 in
set_option maxHeartbeats 8000000 in
theorem awake11 (w : World) : Calls Try.prog 10 #[] w fun e w' => e = .returned (.bool true) ∧ Below w.heap.size w w' := by
  have HC := Lib.hid chk_a
  have HE := Lib.hid enc_a
  have kc := fun (w : World) (C : Array Value) (n c : Nat) => Lib.run_convert_bytes_const (P := Try.prog) w 22 5 C n c Try.underlying22 Try.underlying5
  go_enter Try.func10, Try.ntmps10
  go_wp2_with (first
    | ((with_reducible refine build_row (o := ⟨some 4, _, _, _, _, _⟩) rfl _ _ rfl (Rc.cells ⟨2, 3, 2, ⟨0, 0, 0, none, 0, 0⟩, 0, 0, none, 0, 0⟩) ?_ ?_); (focus (go_simp; exact built_a)))
    | (go_at_call 49; refine (renc ⟨2, 3, 2, ⟨0, 0, 0, none, 0, 0⟩, 0, 0, none, 0, 0⟩ [] [] w (Rd_nil _) (Rd_nil _)).mono ?_; rw [HC.out, HE.out]; rintro e w2 ⟨a2, m2, c2, rfl, hr2, hb2⟩; obtain rfl : m2 = 3 := hr2.hlen.symm; have R2 := Lib.hid hr2; have B2 := Lib.hid hb2; clear hr2 hb2)
    | (go_at_call 40; refine (sequal a2 _ 3 3 c2 3 [2, 3, 2] [2, 3, 2] _ (R2.out.mono ((Below.refl _ w2).alloc (Nat.le_refl _) _)) (rd_new w2 [2, 3, 2] _ _ rfl (by decide))).mono ?_; rintro e w3 ⟨rfl, hq3⟩; have B3 := Lib.hid ((B2.out.alloc B2.out.size _).trans (hq3.below w.heap.size)); clear hq3))
  go_ret
  exact ⟨by simp, B3.out⟩
end Go.Proofs.Ytbcaphkbjeejhaa.W
