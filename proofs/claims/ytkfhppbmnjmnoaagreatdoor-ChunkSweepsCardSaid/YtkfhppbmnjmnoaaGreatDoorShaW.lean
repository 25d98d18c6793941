/- CONTRACTS of layer 3 (sha): the words' functions. -/
import Derived.Test.YtkfhppbmnjmnoaaGreatDoorMem
import Derived.Test.YtkfhppbmnjmnoaaGreatDoorShaP
import Derived.Deep.QuietTactic
import Derived.BigQuiet
set_option linter.unusedSimpArgs false
set_option linter.unusedVariables false
namespace Go.Proofs.YtkfhppbmnjmnoaaGreatDoor.W
open Go.ChangeShapes Go.WideShapes Go.ChangeAt Go.RowKit
open Go.Proofs.YtkfhppbmnjmnoaaGreatDoor.P

/-- a word as a cell -/
def U (x : UInt32) : Value := .int .u32 (x.toNat : Int)



/-- the numbers by which words are turned -/
def TN (n m : Int) : Prop := (n = 2 ∧ m = 30) ∨ (n = 6 ∧ m = 26) ∨ (n = 7 ∧ m = 25) ∨ (n = 11 ∧ m = 21) ∨ (n = 13 ∧ m = 19) ∨ (n = 17 ∧ m = 15) ∨ (n = 18 ∧ m = 14) ∨ (n = 19 ∧ m = 13) ∨ (n = 22 ∧ m = 10) ∨ (n = 25 ∧ m = 7)

theorem sw {P : Program} {f : FuncId} {args : Array Value} {w : World} {v : Ending} (h : Calls P f args w fun e w' => e = v ∧ w = w') : Calls P f args w fun e w' => e = v ∧ w' = w :=
  h.mono fun _ _ ⟨a, b⟩ => ⟨a, b.symm⟩

theorem ch_any (x y z : UInt32) (w : World) : Calls Tryz.prog 105 #[.int .u32 x.toNat, .int .u32 y.toNat, .int .u32 z.toNat] w fun e w' => e = .returned (.int .u32 (ch x y z).toNat) ∧ w = w' := by
  go_enter Tryz.func105, Tryz.ntmps105
  go_wp2
  go_ret
  refine ⟨one (vint ?_), rfl⟩
  rw [show IntKind.u32.max = 4294967295 from rfl, i_not, i_and, i_and, i_xor]; rfl
theorem maj_any (x y z : UInt32) (w : World) : Calls Tryz.prog 107 #[.int .u32 x.toNat, .int .u32 y.toNat, .int .u32 z.toNat] w fun e w' => e = .returned (.int .u32 (maj x y z).toNat) ∧ w = w' := by
  go_enter Tryz.func107, Tryz.ntmps107
  go_wp2
  go_ret
  refine ⟨one (vint ?_), rfl⟩
  rw [i_and, i_and, i_and, i_xor, i_xor]; rfl

theorem or_comm32 (a b : Int) : bits .or .u32 a b = bits .or .u32 b a := by
  simp only [bits]; rw [BitVec.or_comm]
theorem rot_close (x : UInt32) (n : Nat) : bits .or .u32 (IntKind.u32.wrap ((x.toNat : Int) * 2 ^ (32 - n))) ((x.toNat : Int) / 2 ^ n) = ((rot x n).toNat : Int) := by
  rw [i_shl, i_shr, i_or]; rfl

set_option maxHeartbeats 1000000 in
theorem rot_any (x : UInt32) (n m : Int) (h : TN n m) (w : World) : Calls Tryz.prog 81 #[.int .u32 x.toNat, .int .i64 n] w fun e w' => e = .returned (.int .u32 (rot x n.toNat).toNat) ∧ ∃ q, w' = w.drewN q := by
  have := lt32 x
  rcases h with ⟨rfl, rfl⟩ | ⟨rfl, rfl⟩ | ⟨rfl, rfl⟩ | ⟨rfl, rfl⟩ | ⟨rfl, rfl⟩ | ⟨rfl, rfl⟩ | ⟨rfl, rfl⟩ | ⟨rfl, rfl⟩ | ⟨rfl, rfl⟩ | ⟨rfl, rfl⟩
  all_goals
    go_enter Tryz.func81, Tryz.ntmps81
    go_wp2
    go_quiet (fail)
    go_wp2
    go_ret
    refine ⟨one (vint ?_), _, rfl⟩
    rw [← rot_close, or_comm32]
    first | rfl | (simp [IntKind.wrap_u32'])
def TQ (n : Int) : Bool := [2, 6, 7, 11, 13, 17, 18, 19, 22, 25].contains n
theorem rot_at (x : UInt32) (n : Int) (h : TQ n = true) (w : World) : Calls Tryz.prog 81 #[.int .u32 x.toNat, .int .i64 n] w fun e w' => e = .returned (.int .u32 (rot x n.toNat).toNat) ∧ ∃ q, w' = w.drewN q := by
  obtain ⟨m, hm⟩ : ∃ m, TN n m := by
    simp [TQ] at h
    rcases h with rfl | rfl | rfl | rfl | rfl | rfl | rfl | rfl | rfl | rfl <;> simp [TN]
  exact rot_any x n m hm w
theorem neg_low (n m : Int) (h : TN n m) : bits BinOp.and IntKind.u64 (IntKind.u64.wrap (-n)) 31 = m := by
  rcases h with ⟨rfl, rfl⟩ | ⟨rfl, rfl⟩ | ⟨rfl, rfl⟩ | ⟨rfl, rfl⟩ | ⟨rfl, rfl⟩ | ⟨rfl, rfl⟩ | ⟨rfl, rfl⟩ | ⟨rfl, rfl⟩ | ⟨rfl, rfl⟩ | ⟨rfl, rfl⟩ <;> decide +kernel
set_option maxHeartbeats 1000000 in
theorem rotl_any (x : UInt32) (n m : Int) (h : TN n m) (w : World) : Calls Tryz.prog 132 #[.int .u32 x.toNat, .int .i64 (-n)] w fun e w' => e = .returned (.int .u32 (rot x n.toNat).toNat) ∧ w = w' := by
  have := lt32 x
  have e := neg_low n m h
  rcases h with ⟨rfl, rfl⟩ | ⟨rfl, rfl⟩ | ⟨rfl, rfl⟩ | ⟨rfl, rfl⟩ | ⟨rfl, rfl⟩ | ⟨rfl, rfl⟩ | ⟨rfl, rfl⟩ | ⟨rfl, rfl⟩ | ⟨rfl, rfl⟩ | ⟨rfl, rfl⟩
  all_goals
    go_enter Tryz.func132, Tryz.ntmps132
    go_wp2
    go_ret
    refine ⟨one (vint ?_), rfl⟩
    rw [← rot_close]
    first | rfl | (simp [IntKind.wrap_u32'])
set_option maxHeartbeats 1000000 in
theorem turn_any (x : UInt32) (n m : Int) (h : TN n m) (w : World) : Calls Tryz.prog 122 #[.int .u32 x.toNat, .int .i64 n] w fun e w' => e = .returned (.int .u32 (rot x n.toNat).toNat) ∧ w = w' := by
  have hb : 2 ≤ n ∧ n ≤ 25 := by unfold TN at h; omega
  obtain ⟨h1, h2⟩ := hb
  go_enter Tryz.func122, Tryz.ntmps122
  go_wp2_with (go_at_call 132; refine (rotl_any x n m h _).mono ?_; rintro e w' ⟨rfl, rfl⟩)
  go_ret
  exact ⟨rfl, rfl⟩
set_option maxHeartbeats 1000000 in
theorem sA_any (x : UInt32) (w : World) : Calls Tryz.prog 124 #[.int .u32 x.toNat] w fun e w' => e = .returned (.int .u32 (sA x).toNat) ∧ w = w' := by
  have := lt32 x
  go_enter Tryz.func124, Tryz.ntmps124
  go_wp2_with fail
  refine (turn_any x 7 25 (by unfold TN; decide) _).mono ?_
  rintro e w' ⟨rfl, rfl⟩
  go_wp2_with fail
  refine (turn_any x 18 14 (by unfold TN; decide) _).mono ?_
  rintro e w' ⟨rfl, rfl⟩
  go_wp2_with fail
  go_ret
  refine ⟨one (vint ?_), rfl⟩
  have e := i_shr x 3
  rw [show (2 : Int) ^ 3 = 8 from rfl] at e
  rw [e, i_xor, i_xor]; rfl
set_option maxHeartbeats 1000000 in
theorem sB_any (x : UInt32) (w : World) : Calls Tryz.prog 123 #[.int .u32 x.toNat] w fun e w' => e = .returned (.int .u32 (sB x).toNat) ∧ w = w' := by
  have := lt32 x
  go_enter Tryz.func123, Tryz.ntmps123
  go_wp2_with fail
  refine (turn_any x 17 15 (by unfold TN; decide) _).mono ?_
  rintro e w' ⟨rfl, rfl⟩
  go_wp2_with fail
  refine (turn_any x 19 13 (by unfold TN; decide) _).mono ?_
  rintro e w' ⟨rfl, rfl⟩
  go_wp2_with fail
  go_ret
  refine ⟨one (vint ?_), rfl⟩
  have e := i_shr x 10
  rw [show (2 : Int) ^ 10 = 1024 from rfl] at e
  rw [e, i_xor, i_xor]; rfl
set_option maxHeartbeats 1000000 in
theorem bA_any (x : UInt32) (w : World) : Calls Tryz.prog 106 #[.int .u32 x.toNat] w fun e w' => e = .returned (.int .u32 (bA x).toNat) ∧ w = w' := by
  have := lt32 x
  go_enter Tryz.func106, Tryz.ntmps106
  go_wp2_with fail
  refine (turn_any x 2 30 (by unfold TN; decide) _).mono ?_
  rintro e w' ⟨rfl, rfl⟩
  go_wp2_with fail
  refine (turn_any x 13 19 (by unfold TN; decide) _).mono ?_
  rintro e w' ⟨rfl, rfl⟩
  go_wp2_with fail
  refine (turn_any x 22 10 (by unfold TN; decide) _).mono ?_
  rintro e w' ⟨rfl, rfl⟩
  go_wp2_with fail
  go_ret
  refine ⟨one (vint ?_), rfl⟩
  rw [i_xor, i_xor]; rfl
set_option maxHeartbeats 1000000 in
theorem bB_any (x : UInt32) (w : World) : Calls Tryz.prog 104 #[.int .u32 x.toNat] w fun e w' => e = .returned (.int .u32 (bB x).toNat) ∧ w = w' := by
  have := lt32 x
  go_enter Tryz.func104, Tryz.ntmps104
  go_wp2_with fail
  refine (turn_any x 6 26 (by unfold TN; decide) _).mono ?_
  rintro e w' ⟨rfl, rfl⟩
  go_wp2_with fail
  refine (turn_any x 11 21 (by unfold TN; decide) _).mono ?_
  rintro e w' ⟨rfl, rfl⟩
  go_wp2_with fail
  refine (turn_any x 25 7 (by unfold TN; decide) _).mono ?_
  rintro e w' ⟨rfl, rfl⟩
  go_wp2_with fail
  go_ret
  refine ⟨one (vint ?_), rfl⟩
  rw [i_xor, i_xor]; rfl
end Go.Proofs.YtkfhppbmnjmnoaaGreatDoor.W
