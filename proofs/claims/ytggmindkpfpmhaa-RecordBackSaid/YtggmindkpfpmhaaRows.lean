/-
  No cell of these rows narrows 'for every input' (looked for: loops, veiled, ifaces, maps, wideKeys, modest, calm, conditions, laid).
  DERIVED. THE GIVEN ROWS OF THIS SEAT. 5 by the template 'for every input the law returns true; each argument reads behind the call as it read before'; 0 by the template 'total and deterministic' (their statements: YtggmindkpfpmhaaTotals.lean).
  GIVEN WITH THE SEED: the statements are not yours to turn. If you find one false, say at which input.
  Laid BY PROGRAM, IN A SANDBOX (cutbox-rows.mjs): the forced cells as the released guide's own fill.sh prints them over the translation 35f5d029187f4ca3… (all of the seat's roots in one cut). By AI agents, Wed Nov 11 2026. No macro, syntax, notation, axiom, sorry.
-/
import Derived.Test.YtggmindkpfpmhaaChecked
import GoSem.Claim
import GoSem.ClaimJoined
import GoSem.ClaimMapViews
import Derived.JoinedTies
import Derived.KernelRfl
namespace Go.Proofs.Ytggmindkpfpmhaa
/- THE CELL 'sum', in the pinned program and in every row, IS THE sha256 OF THE DUMP (.gsa) THAT YtggmindkpfpmhaaProg.lean LOADS. Nothing in Lean hashes anything: it is a label: what it is worth is what the hold of that sum in a sandbox is worth. -/
noncomputable def Try.pinned : Pinned := { name := "ytggmindkpfpmhaa", sum := "35f5d029187f4ca32b9f6b7aff76b10fc02bc439bc1effecf9c70aa9443d701b", checked := Try.checked }
namespace Rows
def none {H : Type} : Left H := { results := [], args := [] }

/-- 'baileylaw11.RecordCodes': WHATEVER THE INPUT: true; the input reads as it did. -/
def recordCodesSpec : ChangeSpec := { name := "recordCodes", fn := fun _ => fun
  | [d1, d2, d3] => { results := [.lit (.bool true)], args := [d1, d2, d3] }
  | _ => none }
def recordCodesRow : OpenClaim := { program := "ytggmindkpfpmhaa", sum := "35f5d029187f4ca32b9f6b7aff76b10fc02bc439bc1effecf9c70aa9443d701b", func := "bailey/baileylaw11.RecordCodes", spec := "recordCodes", recurses := true, apart := false }
def RecordCodesSaid : Prop := recordCodesRow.holds Try.pinned (OpenSpec.ofChange recordCodesSpec)

/-- ITS FALSE NEIGHBOUR: 'it returns false'. Refute it at one input. -/
def recordCodesWrong : ChangeSpec := { name := "recordCodes", fn := fun _ => fun
  | [d1, d2, d3] => { results := [.lit (.bool false)], args := [d1, d2, d3] }
  | _ => none }
def RecordCodesWrongFalsely : Prop := recordCodesRow.holds Try.pinned (OpenSpec.ofChange recordCodesWrong)

/-- 'baileylaw11.RecordEntries': WHATEVER THE INPUT: true; the input reads as it did. -/
def recordEntriesSpec : ChangeSpec := { name := "recordEntries", fn := fun _ => fun
  | [d1, d2, d3] => { results := [.lit (.bool true)], args := [d1, d2, d3] }
  | _ => none }
def recordEntriesRow : OpenClaim := { program := "ytggmindkpfpmhaa", sum := "35f5d029187f4ca32b9f6b7aff76b10fc02bc439bc1effecf9c70aa9443d701b", func := "bailey/baileylaw11.RecordEntries", spec := "recordEntries", recurses := true, apart := false }
def RecordEntriesSaid : Prop := recordEntriesRow.holds Try.pinned (OpenSpec.ofChange recordEntriesSpec)

/-- ITS FALSE NEIGHBOUR: 'it returns false'. Refute it at one input. -/
def recordEntriesWrong : ChangeSpec := { name := "recordEntries", fn := fun _ => fun
  | [d1, d2, d3] => { results := [.lit (.bool false)], args := [d1, d2, d3] }
  | _ => none }
def RecordEntriesWrongFalsely : Prop := recordEntriesRow.holds Try.pinned (OpenSpec.ofChange recordEntriesWrong)

/-- 'baileylaw11.RecordBack': WHATEVER THE INPUT: true; the input reads as it did. -/
def recordBackSpec : ChangeSpec := { name := "recordBack", fn := fun _ => fun
  | [d1, d2] => { results := [.lit (.bool true)], args := [d1, d2] }
  | _ => none }
def recordBackRow : OpenClaim := { program := "ytggmindkpfpmhaa", sum := "35f5d029187f4ca32b9f6b7aff76b10fc02bc439bc1effecf9c70aa9443d701b", func := "bailey/baileylaw11.RecordBack", spec := "recordBack", apart := false }
def RecordBackSaid : Prop := recordBackRow.holds Try.pinned (OpenSpec.ofChange recordBackSpec)

/-- ITS FALSE NEIGHBOUR: 'it returns false'. Refute it at one input. -/
def recordBackWrong : ChangeSpec := { name := "recordBack", fn := fun _ => fun
  | [d1, d2] => { results := [.lit (.bool false)], args := [d1, d2] }
  | _ => none }
def RecordBackWrongFalsely : Prop := recordBackRow.holds Try.pinned (OpenSpec.ofChange recordBackWrong)

/-- 'baileylaw11.RecordApplies': WHATEVER THE INPUT: true; the input reads as it did. -/
def recordAppliesSpec : ChangeSpec := { name := "recordApplies", fn := fun _ => fun
  | [d1, d2, d3] => { results := [.lit (.bool true)], args := [d1, d2, d3] }
  | _ => none }
def recordAppliesRow : OpenClaim := { program := "ytggmindkpfpmhaa", sum := "35f5d029187f4ca32b9f6b7aff76b10fc02bc439bc1effecf9c70aa9443d701b", func := "bailey/baileylaw11.RecordApplies", spec := "recordApplies", unfollowed := true, recurses := true, apart := false }
def RecordAppliesSaid : Prop := recordAppliesRow.holds Try.pinned (OpenSpec.ofChange recordAppliesSpec)

/-- ITS FALSE NEIGHBOUR: 'it returns false'. Refute it at one input. -/
def recordAppliesWrong : ChangeSpec := { name := "recordApplies", fn := fun _ => fun
  | [d1, d2, d3] => { results := [.lit (.bool false)], args := [d1, d2, d3] }
  | _ => none }
def RecordAppliesWrongFalsely : Prop := recordAppliesRow.holds Try.pinned (OpenSpec.ofChange recordAppliesWrong)

/-- 'baileylaw11.RecordRises': WHATEVER THE INPUT: true; the input reads as it did. -/
def recordRisesSpec : ChangeSpec := { name := "recordRises", fn := fun _ => fun
  | [d] => { results := [.lit (.bool true)], args := [d] }
  | _ => none }
def recordRisesRow : OpenClaim := { program := "ytggmindkpfpmhaa", sum := "35f5d029187f4ca32b9f6b7aff76b10fc02bc439bc1effecf9c70aa9443d701b", func := "bailey/baileylaw11.RecordRises", spec := "recordRises", unfollowed := true, recurses := true, apart := false }
def RecordRisesSaid : Prop := recordRisesRow.holds Try.pinned (OpenSpec.ofChange recordRisesSpec)

/-- ITS FALSE NEIGHBOUR: 'it returns false'. Refute it at one input. -/
def recordRisesWrong : ChangeSpec := { name := "recordRises", fn := fun _ => fun
  | [d] => { results := [.lit (.bool false)], args := [d] }
  | _ => none }
def RecordRisesWrongFalsely : Prop := recordRisesRow.holds Try.pinned (OpenSpec.ofChange recordRisesWrong)

/- THE SECOND FORM. 'bulk': how many values and letters a reading holds, each counted each time it is reached (what is shared counts as often as it is met; a slice's spare places count too). A statement '..UptoSaid' is the law's where the arguments, and the package variables that the reading takes, are together of bulk at most 1048576: NARROWER than '..Said'. Prove '..Said' where nothing that the law and all that it calls make is longer than what came in: it says more and counts as full. Else prove '..UptoSaid'. A law counts once. -/
mutual
def uptoBulk {H : Type} : DataW H → Nat
  | .lit (.string bytes) => bytes.length + 1
  | .lit _ => 1
  | .nil => 1
  | .ptr d => uptoBulk d + 1
  | .slice elems spare => uptoBulkAll elems + uptoBulkAll spare + 1
  | .agg parts => uptoBulkAll parts + 1
  | .iface _ d => uptoBulk d + 1
  | .map entries => uptoBulkEntries entries + 1
  | .held _ => 1
def uptoBulkAll {H : Type} : List (DataW H) → Nat
  | [] => 0
  | d :: r => uptoBulk d + uptoBulkAll r
def uptoBulkEntries {H : Type} : List (Lit × DataW H) → Nat
  | [] => 0
  | x :: r => uptoBulkEntry x + uptoBulkEntries r
def uptoBulkEntry {H : Type} : Lit × DataW H → Nat
  | (.string bytes, d) => bytes.length + uptoBulk d + 1
  | (_, d) => uptoBulk d + 1
 end
def uptoSmall : (H : Type) → List (DataW H) → Bool := fun _ ds => decide (uptoBulkAll ds ≤ 1048576)
def OpenSpec.upto (s : _root_.Go.ChangeSpec) : _root_.Go.OpenSpec := { _root_.Go.OpenSpec.ofChange s with cond := some uptoSmall }

/-- 'baileylaw11.RecordCodes', WHERE WHAT IT READS IS OF BULK AT MOST 1048576: true; the input reads as it did. -/
def recordCodesUptoRow : OpenClaim := { program := "ytggmindkpfpmhaa", sum := "35f5d029187f4ca32b9f6b7aff76b10fc02bc439bc1effecf9c70aa9443d701b", func := "bailey/baileylaw11.RecordCodes", spec := "recordCodes", recurses := true, apart := false, narrowed := true }
def RecordCodesUptoSaid : Prop := recordCodesUptoRow.holds Try.pinned (OpenSpec.upto recordCodesSpec)

/-- 'baileylaw11.RecordEntries', WHERE WHAT IT READS IS OF BULK AT MOST 1048576: true; the input reads as it did. -/
def recordEntriesUptoRow : OpenClaim := { program := "ytggmindkpfpmhaa", sum := "35f5d029187f4ca32b9f6b7aff76b10fc02bc439bc1effecf9c70aa9443d701b", func := "bailey/baileylaw11.RecordEntries", spec := "recordEntries", recurses := true, apart := false, narrowed := true }
def RecordEntriesUptoSaid : Prop := recordEntriesUptoRow.holds Try.pinned (OpenSpec.upto recordEntriesSpec)

/-- 'baileylaw11.RecordBack', WHERE WHAT IT READS IS OF BULK AT MOST 1048576: true; the input reads as it did. -/
def recordBackUptoRow : OpenClaim := { program := "ytggmindkpfpmhaa", sum := "35f5d029187f4ca32b9f6b7aff76b10fc02bc439bc1effecf9c70aa9443d701b", func := "bailey/baileylaw11.RecordBack", spec := "recordBack", apart := false, narrowed := true }
def RecordBackUptoSaid : Prop := recordBackUptoRow.holds Try.pinned (OpenSpec.upto recordBackSpec)

/-- 'baileylaw11.RecordApplies', WHERE WHAT IT READS IS OF BULK AT MOST 1048576: true; the input reads as it did. -/
def recordAppliesUptoRow : OpenClaim := { program := "ytggmindkpfpmhaa", sum := "35f5d029187f4ca32b9f6b7aff76b10fc02bc439bc1effecf9c70aa9443d701b", func := "bailey/baileylaw11.RecordApplies", spec := "recordApplies", unfollowed := true, recurses := true, apart := false, narrowed := true }
def RecordAppliesUptoSaid : Prop := recordAppliesUptoRow.holds Try.pinned (OpenSpec.upto recordAppliesSpec)

/-- 'baileylaw11.RecordRises', WHERE WHAT IT READS IS OF BULK AT MOST 1048576: true; the input reads as it did. -/
def recordRisesUptoRow : OpenClaim := { program := "ytggmindkpfpmhaa", sum := "35f5d029187f4ca32b9f6b7aff76b10fc02bc439bc1effecf9c70aa9443d701b", func := "bailey/baileylaw11.RecordRises", spec := "recordRises", unfollowed := true, recurses := true, apart := false, narrowed := true }
def RecordRisesUptoSaid : Prop := recordRisesUptoRow.holds Try.pinned (OpenSpec.upto recordRisesSpec)

end Rows
end Go.Proofs.Ytggmindkpfpmhaa
