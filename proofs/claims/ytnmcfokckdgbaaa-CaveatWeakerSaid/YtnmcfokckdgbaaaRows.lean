/-
  No cell of these rows narrows 'for every input' (looked for: loops, veiled, ifaces, maps, wideKeys, modest, calm, conditions, laid).
  DERIVED. THE GIVEN ROWS OF THIS SEAT. 10 by the template 'for every input the law returns true; each argument reads behind the call as it read before'; 0 by the template 'total and deterministic' (their statements: YtnmcfokckdgbaaaTotals.lean).
  GIVEN WITH THE SEED: the statements are not yours to turn. If you find one false, say at which input.
  Laid BY PROGRAM, IN A SANDBOX (cutbox-rows.mjs): the forced cells as the released guide's own fill.sh prints them over the translation cc11803352325b13… (all of the seat's roots in one cut). By AI agents, Wed Nov 11 2026. No macro, syntax, notation, axiom, sorry.
-/
import Derived.Test.YtnmcfokckdgbaaaChecked
import GoSem.Claim
import GoSem.ClaimJoined
import GoSem.ClaimMapViews
import Derived.JoinedTies
import Derived.KernelRfl
namespace Go.Proofs.Ytnmcfokckdgbaaa
/- THE CELL 'sum', in the pinned program and in every row, IS THE sha256 OF THE DUMP (.gsa) THAT YtnmcfokckdgbaaaProg.lean LOADS. Nothing in Lean hashes anything: it is a label: what it is worth is what the hold of that sum in a sandbox is worth. -/
noncomputable def Try.pinned : Pinned := { name := "ytnmcfokckdgbaaa", sum := "cc11803352325b13d140c0a3237f686129cf72c2016ef13b645c4e0ca43c3d14", checked := Try.checked }
namespace Rows
def none {H : Type} : Left H := { results := [], args := [] }

/-- 'baileylaw05.AdlerSums': WHATEVER THE INPUT: true; the input reads as it did. -/
def adlerSumsSpec : ChangeSpec := { name := "adlerSums", fn := fun _ => fun
  | [d1, d2] => { results := [.lit (.bool true)], args := [d1, d2] }
  | _ => none }
def adlerSumsRow : OpenClaim := { program := "ytnmcfokckdgbaaa", sum := "cc11803352325b13d140c0a3237f686129cf72c2016ef13b645c4e0ca43c3d14", func := "bailey/baileylaw05.AdlerSums", spec := "adlerSums", apart := false }
def AdlerSumsSaid : Prop := adlerSumsRow.holds Try.pinned (OpenSpec.ofChange adlerSumsSpec)

/-- ITS FALSE NEIGHBOUR: 'it returns false'. Refute it at one input. -/
def adlerSumsWrong : ChangeSpec := { name := "adlerSums", fn := fun _ => fun
  | [d1, d2] => { results := [.lit (.bool false)], args := [d1, d2] }
  | _ => none }
def AdlerSumsWrongFalsely : Prop := adlerSumsRow.holds Try.pinned (OpenSpec.ofChange adlerSumsWrong)

/-- 'baileylaw05.AdlerAny': WHATEVER THE INPUT: true; the input reads as it did. -/
def adlerAnySpec : ChangeSpec := { name := "adlerAny", fn := fun _ => fun
  | [d1, d2, d3, d4, d5] => { results := [.lit (.bool true)], args := [d1, d2, d3, d4, d5] }
  | _ => none }
def adlerAnyRow : OpenClaim := { program := "ytnmcfokckdgbaaa", sum := "cc11803352325b13d140c0a3237f686129cf72c2016ef13b645c4e0ca43c3d14", func := "bailey/baileylaw05.AdlerAny", spec := "adlerAny", apart := false }
def AdlerAnySaid : Prop := adlerAnyRow.holds Try.pinned (OpenSpec.ofChange adlerAnySpec)

/-- ITS FALSE NEIGHBOUR: 'it returns false'. Refute it at one input. -/
def adlerAnyWrong : ChangeSpec := { name := "adlerAny", fn := fun _ => fun
  | [d1, d2, d3, d4, d5] => { results := [.lit (.bool false)], args := [d1, d2, d3, d4, d5] }
  | _ => none }
def AdlerAnyWrongFalsely : Prop := adlerAnyRow.holds Try.pinned (OpenSpec.ofChange adlerAnyWrong)

/-- 'baileylaw05.AdlerJoins': WHATEVER THE INPUT: true; the input reads as it did. -/
def adlerJoinsSpec : ChangeSpec := { name := "adlerJoins", fn := fun _ => fun
  | [d1, d2] => { results := [.lit (.bool true)], args := [d1, d2] }
  | _ => none }
def adlerJoinsRow : OpenClaim := { program := "ytnmcfokckdgbaaa", sum := "cc11803352325b13d140c0a3237f686129cf72c2016ef13b645c4e0ca43c3d14", func := "bailey/baileylaw05.AdlerJoins", spec := "adlerJoins", apart := false }
def AdlerJoinsSaid : Prop := adlerJoinsRow.holds Try.pinned (OpenSpec.ofChange adlerJoinsSpec)

/-- ITS FALSE NEIGHBOUR: 'it returns false'. Refute it at one input. -/
def adlerJoinsWrong : ChangeSpec := { name := "adlerJoins", fn := fun _ => fun
  | [d1, d2] => { results := [.lit (.bool false)], args := [d1, d2] }
  | _ => none }
def AdlerJoinsWrongFalsely : Prop := adlerJoinsRow.holds Try.pinned (OpenSpec.ofChange adlerJoinsWrong)

/-- 'baileylaw05.AdlerRolls': WHATEVER THE INPUT: true; the input reads as it did. -/
def adlerRollsSpec : ChangeSpec := { name := "adlerRolls", fn := fun _ => fun
  | [d1, d2] => { results := [.lit (.bool true)], args := [d1, d2] }
  | _ => none }
def adlerRollsRow : OpenClaim := { program := "ytnmcfokckdgbaaa", sum := "cc11803352325b13d140c0a3237f686129cf72c2016ef13b645c4e0ca43c3d14", func := "bailey/baileylaw05.AdlerRolls", spec := "adlerRolls", apart := false }
def AdlerRollsSaid : Prop := adlerRollsRow.holds Try.pinned (OpenSpec.ofChange adlerRollsSpec)

/-- ITS FALSE NEIGHBOUR: 'it returns false'. Refute it at one input. -/
def adlerRollsWrong : ChangeSpec := { name := "adlerRolls", fn := fun _ => fun
  | [d1, d2] => { results := [.lit (.bool false)], args := [d1, d2] }
  | _ => none }
def AdlerRollsWrongFalsely : Prop := adlerRollsRow.holds Try.pinned (OpenSpec.ofChange adlerRollsWrong)

/-- 'baileylaw06.CaveatChecks': WHATEVER THE INPUT: true; the input reads as it did. -/
def caveatChecksSpec : ChangeSpec := { name := "caveatChecks", fn := fun _ => fun
  | [d1, d2] => { results := [.lit (.bool true)], args := [d1, d2] }
  | _ => none }
def caveatChecksRow : OpenClaim := { program := "ytnmcfokckdgbaaa", sum := "cc11803352325b13d140c0a3237f686129cf72c2016ef13b645c4e0ca43c3d14", func := "bailey/baileylaw06.CaveatChecks", spec := "caveatChecks", apart := false }
def CaveatChecksSaid : Prop := caveatChecksRow.holds Try.pinned (OpenSpec.ofChange caveatChecksSpec)

/-- ITS FALSE NEIGHBOUR: 'it returns false'. Refute it at one input. -/
def caveatChecksWrong : ChangeSpec := { name := "caveatChecks", fn := fun _ => fun
  | [d1, d2] => { results := [.lit (.bool false)], args := [d1, d2] }
  | _ => none }
def CaveatChecksWrongFalsely : Prop := caveatChecksRow.holds Try.pinned (OpenSpec.ofChange caveatChecksWrong)

/-- 'baileylaw06.CaveatHolds': WHATEVER THE INPUT: true; the input reads as it did. -/
def caveatHoldsSpec : ChangeSpec := { name := "caveatHolds", fn := fun _ => fun
  | [d1, d2, d3] => { results := [.lit (.bool true)], args := [d1, d2, d3] }
  | _ => none }
def caveatHoldsRow : OpenClaim := { program := "ytnmcfokckdgbaaa", sum := "cc11803352325b13d140c0a3237f686129cf72c2016ef13b645c4e0ca43c3d14", func := "bailey/baileylaw06.CaveatHolds", spec := "caveatHolds", apart := false }
def CaveatHoldsSaid : Prop := caveatHoldsRow.holds Try.pinned (OpenSpec.ofChange caveatHoldsSpec)

/-- ITS FALSE NEIGHBOUR: 'it returns false'. Refute it at one input. -/
def caveatHoldsWrong : ChangeSpec := { name := "caveatHolds", fn := fun _ => fun
  | [d1, d2, d3] => { results := [.lit (.bool false)], args := [d1, d2, d3] }
  | _ => none }
def CaveatHoldsWrongFalsely : Prop := caveatHoldsRow.holds Try.pinned (OpenSpec.ofChange caveatHoldsWrong)

/-- 'baileylaw06.CaveatCodes': WHATEVER THE INPUT: true; the input reads as it did. -/
def caveatCodesSpec : ChangeSpec := { name := "caveatCodes", fn := fun _ => fun
  | [d1, d2, d3] => { results := [.lit (.bool true)], args := [d1, d2, d3] }
  | _ => none }
def caveatCodesRow : OpenClaim := { program := "ytnmcfokckdgbaaa", sum := "cc11803352325b13d140c0a3237f686129cf72c2016ef13b645c4e0ca43c3d14", func := "bailey/baileylaw06.CaveatCodes", spec := "caveatCodes", recurses := true, apart := false }
def CaveatCodesSaid : Prop := caveatCodesRow.holds Try.pinned (OpenSpec.ofChange caveatCodesSpec)

/-- ITS FALSE NEIGHBOUR: 'it returns false'. Refute it at one input. -/
def caveatCodesWrong : ChangeSpec := { name := "caveatCodes", fn := fun _ => fun
  | [d1, d2, d3] => { results := [.lit (.bool false)], args := [d1, d2, d3] }
  | _ => none }
def CaveatCodesWrongFalsely : Prop := caveatCodesRow.holds Try.pinned (OpenSpec.ofChange caveatCodesWrong)

/-- 'baileylaw06.CaveatBack': WHATEVER THE INPUT: true; the input reads as it did. -/
def caveatBackSpec : ChangeSpec := { name := "caveatBack", fn := fun _ => fun
  | [d1, d2] => { results := [.lit (.bool true)], args := [d1, d2] }
  | _ => none }
def caveatBackRow : OpenClaim := { program := "ytnmcfokckdgbaaa", sum := "cc11803352325b13d140c0a3237f686129cf72c2016ef13b645c4e0ca43c3d14", func := "bailey/baileylaw06.CaveatBack", spec := "caveatBack", apart := false }
def CaveatBackSaid : Prop := caveatBackRow.holds Try.pinned (OpenSpec.ofChange caveatBackSpec)

/-- ITS FALSE NEIGHBOUR: 'it returns false'. Refute it at one input. -/
def caveatBackWrong : ChangeSpec := { name := "caveatBack", fn := fun _ => fun
  | [d1, d2] => { results := [.lit (.bool false)], args := [d1, d2] }
  | _ => none }
def CaveatBackWrongFalsely : Prop := caveatBackRow.holds Try.pinned (OpenSpec.ofChange caveatBackWrong)

/-- 'baileylaw06.CaveatWeaker': WHATEVER THE INPUT: true; the input reads as it did. -/
def caveatWeakerSpec : ChangeSpec := { name := "caveatWeaker", fn := fun _ => fun
  | [d1, d2, d3] => { results := [.lit (.bool true)], args := [d1, d2, d3] }
  | _ => none }
def caveatWeakerRow : OpenClaim := { program := "ytnmcfokckdgbaaa", sum := "cc11803352325b13d140c0a3237f686129cf72c2016ef13b645c4e0ca43c3d14", func := "bailey/baileylaw06.CaveatWeaker", spec := "caveatWeaker", apart := false }
def CaveatWeakerSaid : Prop := caveatWeakerRow.holds Try.pinned (OpenSpec.ofChange caveatWeakerSpec)

/-- ITS FALSE NEIGHBOUR: 'it returns false'. Refute it at one input. -/
def caveatWeakerWrong : ChangeSpec := { name := "caveatWeaker", fn := fun _ => fun
  | [d1, d2, d3] => { results := [.lit (.bool false)], args := [d1, d2, d3] }
  | _ => none }
def CaveatWeakerWrongFalsely : Prop := caveatWeakerRow.holds Try.pinned (OpenSpec.ofChange caveatWeakerWrong)

/-- 'baileylaw06.CaveatSame': WHATEVER THE INPUT: true; the input reads as it did. -/
def caveatSameSpec : ChangeSpec := { name := "caveatSame", fn := fun _ => fun
  | [d1, d2] => { results := [.lit (.bool true)], args := [d1, d2] }
  | _ => none }
def caveatSameRow : OpenClaim := { program := "ytnmcfokckdgbaaa", sum := "cc11803352325b13d140c0a3237f686129cf72c2016ef13b645c4e0ca43c3d14", func := "bailey/baileylaw06.CaveatSame", spec := "caveatSame", apart := false }
def CaveatSameSaid : Prop := caveatSameRow.holds Try.pinned (OpenSpec.ofChange caveatSameSpec)

/-- ITS FALSE NEIGHBOUR: 'it returns false'. Refute it at one input. -/
def caveatSameWrong : ChangeSpec := { name := "caveatSame", fn := fun _ => fun
  | [d1, d2] => { results := [.lit (.bool false)], args := [d1, d2] }
  | _ => none }
def CaveatSameWrongFalsely : Prop := caveatSameRow.holds Try.pinned (OpenSpec.ofChange caveatSameWrong)

/- THE SECOND FORM. 'bulk': how many values and letters a reading holds, each counted each time it is reached (what is shared counts as often as it is met; a slice's spare places count too). A statement '..UptoSaid' is the law's where the arguments, and the package variables that the reading takes, are together of bulk at most 1048576: NARROWER than '..Said'. Prove '..Said' where nothing that the law and all that it calls make is longer than what came in: it says more and counts as full. Else prove '..UptoSaid'. A law counts once. -/
mutual
def uptoBulk {H : Type} : DataW H → Nat
  | .lit (.string bytes) => bytes.length + 1
  | .lit _ => 1
  | .nil => 1
  | .ptr d => uptoBulk d + 1
  | .slice elems spare => uptoBulkAll elems + uptoBulkAll spare + 1
  | .agg parts => uptoBulkAll parts + 1
  | .iface _ d => uptoBulk d + 1
  | .map entries => uptoBulkEntries entries + 1
  | .held _ => 1
def uptoBulkAll {H : Type} : List (DataW H) → Nat
  | [] => 0
  | d :: r => uptoBulk d + uptoBulkAll r
def uptoBulkEntries {H : Type} : List (Lit × DataW H) → Nat
  | [] => 0
  | x :: r => uptoBulkEntry x + uptoBulkEntries r
def uptoBulkEntry {H : Type} : Lit × DataW H → Nat
  | (.string bytes, d) => bytes.length + uptoBulk d + 1
  | (_, d) => uptoBulk d + 1
 end
def uptoSmall : (H : Type) → List (DataW H) → Bool := fun _ ds => decide (uptoBulkAll ds ≤ 1048576)
def OpenSpec.upto (s : _root_.Go.ChangeSpec) : _root_.Go.OpenSpec := { _root_.Go.OpenSpec.ofChange s with cond := some uptoSmall }

/-- 'baileylaw05.AdlerSums', WHERE WHAT IT READS IS OF BULK AT MOST 1048576: true; the input reads as it did. -/
def adlerSumsUptoRow : OpenClaim := { program := "ytnmcfokckdgbaaa", sum := "cc11803352325b13d140c0a3237f686129cf72c2016ef13b645c4e0ca43c3d14", func := "bailey/baileylaw05.AdlerSums", spec := "adlerSums", apart := false, narrowed := true }
def AdlerSumsUptoSaid : Prop := adlerSumsUptoRow.holds Try.pinned (OpenSpec.upto adlerSumsSpec)

/-- 'baileylaw05.AdlerAny', WHERE WHAT IT READS IS OF BULK AT MOST 1048576: true; the input reads as it did. -/
def adlerAnyUptoRow : OpenClaim := { program := "ytnmcfokckdgbaaa", sum := "cc11803352325b13d140c0a3237f686129cf72c2016ef13b645c4e0ca43c3d14", func := "bailey/baileylaw05.AdlerAny", spec := "adlerAny", apart := false, narrowed := true }
def AdlerAnyUptoSaid : Prop := adlerAnyUptoRow.holds Try.pinned (OpenSpec.upto adlerAnySpec)

/-- 'baileylaw05.AdlerJoins', WHERE WHAT IT READS IS OF BULK AT MOST 1048576: true; the input reads as it did. -/
def adlerJoinsUptoRow : OpenClaim := { program := "ytnmcfokckdgbaaa", sum := "cc11803352325b13d140c0a3237f686129cf72c2016ef13b645c4e0ca43c3d14", func := "bailey/baileylaw05.AdlerJoins", spec := "adlerJoins", apart := false, narrowed := true }
def AdlerJoinsUptoSaid : Prop := adlerJoinsUptoRow.holds Try.pinned (OpenSpec.upto adlerJoinsSpec)

/-- 'baileylaw05.AdlerRolls', WHERE WHAT IT READS IS OF BULK AT MOST 1048576: true; the input reads as it did. -/
def adlerRollsUptoRow : OpenClaim := { program := "ytnmcfokckdgbaaa", sum := "cc11803352325b13d140c0a3237f686129cf72c2016ef13b645c4e0ca43c3d14", func := "bailey/baileylaw05.AdlerRolls", spec := "adlerRolls", apart := false, narrowed := true }
def AdlerRollsUptoSaid : Prop := adlerRollsUptoRow.holds Try.pinned (OpenSpec.upto adlerRollsSpec)

/-- 'baileylaw06.CaveatChecks', WHERE WHAT IT READS IS OF BULK AT MOST 1048576: true; the input reads as it did. -/
def caveatChecksUptoRow : OpenClaim := { program := "ytnmcfokckdgbaaa", sum := "cc11803352325b13d140c0a3237f686129cf72c2016ef13b645c4e0ca43c3d14", func := "bailey/baileylaw06.CaveatChecks", spec := "caveatChecks", apart := false, narrowed := true }
def CaveatChecksUptoSaid : Prop := caveatChecksUptoRow.holds Try.pinned (OpenSpec.upto caveatChecksSpec)

/-- 'baileylaw06.CaveatHolds', WHERE WHAT IT READS IS OF BULK AT MOST 1048576: true; the input reads as it did. -/
def caveatHoldsUptoRow : OpenClaim := { program := "ytnmcfokckdgbaaa", sum := "cc11803352325b13d140c0a3237f686129cf72c2016ef13b645c4e0ca43c3d14", func := "bailey/baileylaw06.CaveatHolds", spec := "caveatHolds", apart := false, narrowed := true }
def CaveatHoldsUptoSaid : Prop := caveatHoldsUptoRow.holds Try.pinned (OpenSpec.upto caveatHoldsSpec)

/-- 'baileylaw06.CaveatCodes', WHERE WHAT IT READS IS OF BULK AT MOST 1048576: true; the input reads as it did. -/
def caveatCodesUptoRow : OpenClaim := { program := "ytnmcfokckdgbaaa", sum := "cc11803352325b13d140c0a3237f686129cf72c2016ef13b645c4e0ca43c3d14", func := "bailey/baileylaw06.CaveatCodes", spec := "caveatCodes", recurses := true, apart := false, narrowed := true }
def CaveatCodesUptoSaid : Prop := caveatCodesUptoRow.holds Try.pinned (OpenSpec.upto caveatCodesSpec)

/-- 'baileylaw06.CaveatBack', WHERE WHAT IT READS IS OF BULK AT MOST 1048576: true; the input reads as it did. -/
def caveatBackUptoRow : OpenClaim := { program := "ytnmcfokckdgbaaa", sum := "cc11803352325b13d140c0a3237f686129cf72c2016ef13b645c4e0ca43c3d14", func := "bailey/baileylaw06.CaveatBack", spec := "caveatBack", apart := false, narrowed := true }
def CaveatBackUptoSaid : Prop := caveatBackUptoRow.holds Try.pinned (OpenSpec.upto caveatBackSpec)

/-- 'baileylaw06.CaveatWeaker', WHERE WHAT IT READS IS OF BULK AT MOST 1048576: true; the input reads as it did. -/
def caveatWeakerUptoRow : OpenClaim := { program := "ytnmcfokckdgbaaa", sum := "cc11803352325b13d140c0a3237f686129cf72c2016ef13b645c4e0ca43c3d14", func := "bailey/baileylaw06.CaveatWeaker", spec := "caveatWeaker", apart := false, narrowed := true }
def CaveatWeakerUptoSaid : Prop := caveatWeakerUptoRow.holds Try.pinned (OpenSpec.upto caveatWeakerSpec)

/-- 'baileylaw06.CaveatSame', WHERE WHAT IT READS IS OF BULK AT MOST 1048576: true; the input reads as it did. -/
def caveatSameUptoRow : OpenClaim := { program := "ytnmcfokckdgbaaa", sum := "cc11803352325b13d140c0a3237f686129cf72c2016ef13b645c4e0ca43c3d14", func := "bailey/baileylaw06.CaveatSame", spec := "caveatSame", apart := false, narrowed := true }
def CaveatSameUptoSaid : Prop := caveatSameUptoRow.holds Try.pinned (OpenSpec.upto caveatSameSpec)

end Rows
end Go.Proofs.Ytnmcfokckdgbaaa
