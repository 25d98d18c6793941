/-
  No cell of these rows narrows 'for every input' (looked for: loops, veiled, ifaces, maps, wideKeys, modest, calm, conditions, laid).
  DERIVED. THE GIVEN ROWS OF THIS SEAT. 11 by the template 'for every input the law returns true; each argument reads behind the call as it read before'; 0 by the template 'total and deterministic' (their statements: YtbdlhcgilcpeoaaTotals.lean).
  GIVEN WITH THE SEED: the statements are not yours to turn. If you find one false, say at which input.
  Laid BY PROGRAM, IN A SANDBOX (cutbox-rows.mjs): the forced cells as the released guide's own fill.sh prints them over the translation c98029f4c836d27b… (all of the seat's roots in one cut). By AI agents, Wed Nov 11 2026. No macro, syntax, notation, axiom, sorry.
-/
import Derived.Test.YtbdlhcgilcpeoaaChecked
import GoSem.Claim
import GoSem.ClaimJoined
import GoSem.ClaimMapViews
import Derived.JoinedTies
import Derived.KernelRfl
namespace Go.Proofs.Ytbdlhcgilcpeoaa
/- THE CELL 'sum', in the pinned program and in every row, IS THE sha256 OF THE DUMP (.gsa) THAT YtbdlhcgilcpeoaaProg.lean LOADS. Nothing in Lean hashes anything: it is a label: what it is worth is what the hold of that sum in a sandbox is worth. -/
noncomputable def Try.pinned : Pinned := { name := "ytbdlhcgilcpeoaa", sum := "c98029f4c836d27b3a8303f01d971ab1b0245e452f8a294f47edc0f1a76f2cda", checked := Try.checked }
namespace Rows
def none {H : Type} : Left H := { results := [], args := [] }

/-- 'baileylaw01.NumsChecked': WHATEVER THE INPUT: true; the input reads as it did. -/
def numsCheckedSpec : ChangeSpec := { name := "numsChecked", fn := fun _ => fun
  | [d1, d2] => { results := [.lit (.bool true)], args := [d1, d2] }
  | _ => none }
def numsCheckedRow : OpenClaim := { program := "ytbdlhcgilcpeoaa", sum := "c98029f4c836d27b3a8303f01d971ab1b0245e452f8a294f47edc0f1a76f2cda", func := "bailey/baileylaw01.NumsChecked", spec := "numsChecked", apart := false }
def NumsCheckedSaid : Prop := numsCheckedRow.holds Try.pinned (OpenSpec.ofChange numsCheckedSpec)

/-- ITS FALSE NEIGHBOUR: 'it returns false'. Refute it at one input. -/
def numsCheckedWrong : ChangeSpec := { name := "numsChecked", fn := fun _ => fun
  | [d1, d2] => { results := [.lit (.bool false)], args := [d1, d2] }
  | _ => none }
def NumsCheckedWrongFalsely : Prop := numsCheckedRow.holds Try.pinned (OpenSpec.ofChange numsCheckedWrong)

/-- 'baileylaw01.NumsWithin': WHATEVER THE INPUT: true; the input reads as it did. -/
def numsWithinSpec : ChangeSpec := { name := "numsWithin", fn := fun _ => fun
  | [d1, d2, d3] => { results := [.lit (.bool true)], args := [d1, d2, d3] }
  | _ => none }
def numsWithinRow : OpenClaim := { program := "ytbdlhcgilcpeoaa", sum := "c98029f4c836d27b3a8303f01d971ab1b0245e452f8a294f47edc0f1a76f2cda", func := "bailey/baileylaw01.NumsWithin", spec := "numsWithin", apart := false }
def NumsWithinSaid : Prop := numsWithinRow.holds Try.pinned (OpenSpec.ofChange numsWithinSpec)

/-- ITS FALSE NEIGHBOUR: 'it returns false'. Refute it at one input. -/
def numsWithinWrong : ChangeSpec := { name := "numsWithin", fn := fun _ => fun
  | [d1, d2, d3] => { results := [.lit (.bool false)], args := [d1, d2, d3] }
  | _ => none }
def NumsWithinWrongFalsely : Prop := numsWithinRow.holds Try.pinned (OpenSpec.ofChange numsWithinWrong)

/-- 'baileylaw01.NumsSums': WHATEVER THE INPUT: true; the input reads as it did. -/
def numsSumsSpec : ChangeSpec := { name := "numsSums", fn := fun _ => fun
  | [d1, d2] => { results := [.lit (.bool true)], args := [d1, d2] }
  | _ => none }
def numsSumsRow : OpenClaim := { program := "ytbdlhcgilcpeoaa", sum := "c98029f4c836d27b3a8303f01d971ab1b0245e452f8a294f47edc0f1a76f2cda", func := "bailey/baileylaw01.NumsSums", spec := "numsSums", apart := false }
def NumsSumsSaid : Prop := numsSumsRow.holds Try.pinned (OpenSpec.ofChange numsSumsSpec)

/-- ITS FALSE NEIGHBOUR: 'it returns false'. Refute it at one input. -/
def numsSumsWrong : ChangeSpec := { name := "numsSums", fn := fun _ => fun
  | [d1, d2] => { results := [.lit (.bool false)], args := [d1, d2] }
  | _ => none }
def NumsSumsWrongFalsely : Prop := numsSumsRow.holds Try.pinned (OpenSpec.ofChange numsSumsWrong)

/-- 'baileylaw01.NumsOrder': WHATEVER THE INPUT: true; the input reads as it did. -/
def numsOrderSpec : ChangeSpec := { name := "numsOrder", fn := fun _ => fun
  | [d1, d2] => { results := [.lit (.bool true)], args := [d1, d2] }
  | _ => none }
def numsOrderRow : OpenClaim := { program := "ytbdlhcgilcpeoaa", sum := "c98029f4c836d27b3a8303f01d971ab1b0245e452f8a294f47edc0f1a76f2cda", func := "bailey/baileylaw01.NumsOrder", spec := "numsOrder", apart := false }
def NumsOrderSaid : Prop := numsOrderRow.holds Try.pinned (OpenSpec.ofChange numsOrderSpec)

/-- ITS FALSE NEIGHBOUR: 'it returns false'. Refute it at one input. -/
def numsOrderWrong : ChangeSpec := { name := "numsOrder", fn := fun _ => fun
  | [d1, d2] => { results := [.lit (.bool false)], args := [d1, d2] }
  | _ => none }
def NumsOrderWrongFalsely : Prop := numsOrderRow.holds Try.pinned (OpenSpec.ofChange numsOrderWrong)

/-- 'baileylaw01.NumsSets': WHATEVER THE INPUT: true; the input reads as it did. -/
def numsSetsSpec : ChangeSpec := { name := "numsSets", fn := fun _ => fun
  | [d1, d2] => { results := [.lit (.bool true)], args := [d1, d2] }
  | _ => none }
def numsSetsRow : OpenClaim := { program := "ytbdlhcgilcpeoaa", sum := "c98029f4c836d27b3a8303f01d971ab1b0245e452f8a294f47edc0f1a76f2cda", func := "bailey/baileylaw01.NumsSets", spec := "numsSets", apart := false }
def NumsSetsSaid : Prop := numsSetsRow.holds Try.pinned (OpenSpec.ofChange numsSetsSpec)

/-- ITS FALSE NEIGHBOUR: 'it returns false'. Refute it at one input. -/
def numsSetsWrong : ChangeSpec := { name := "numsSets", fn := fun _ => fun
  | [d1, d2] => { results := [.lit (.bool false)], args := [d1, d2] }
  | _ => none }
def NumsSetsWrongFalsely : Prop := numsSetsRow.holds Try.pinned (OpenSpec.ofChange numsSetsWrong)

/-- 'baileylaw01.NumsPut': WHATEVER THE INPUT: true; the input reads as it did. -/
def numsPutSpec : ChangeSpec := { name := "numsPut", fn := fun _ => fun
  | [d1, d2, d3] => { results := [.lit (.bool true)], args := [d1, d2, d3] }
  | _ => none }
def numsPutRow : OpenClaim := { program := "ytbdlhcgilcpeoaa", sum := "c98029f4c836d27b3a8303f01d971ab1b0245e452f8a294f47edc0f1a76f2cda", func := "bailey/baileylaw01.NumsPut", spec := "numsPut", apart := false }
def NumsPutSaid : Prop := numsPutRow.holds Try.pinned (OpenSpec.ofChange numsPutSpec)

/-- ITS FALSE NEIGHBOUR: 'it returns false'. Refute it at one input. -/
def numsPutWrong : ChangeSpec := { name := "numsPut", fn := fun _ => fun
  | [d1, d2, d3] => { results := [.lit (.bool false)], args := [d1, d2, d3] }
  | _ => none }
def NumsPutWrongFalsely : Prop := numsPutRow.holds Try.pinned (OpenSpec.ofChange numsPutWrong)

/-- 'baileylaw02.PackWrites': WHATEVER THE INPUT: true; the input reads as it did. -/
def packWritesSpec : ChangeSpec := { name := "packWrites", fn := fun _ => fun
  | [d1, d2, d3, d4] => { results := [.lit (.bool true)], args := [d1, d2, d3, d4] }
  | _ => none }
def packWritesRow : OpenClaim := { program := "ytbdlhcgilcpeoaa", sum := "c98029f4c836d27b3a8303f01d971ab1b0245e452f8a294f47edc0f1a76f2cda", func := "bailey/baileylaw02.PackWrites", spec := "packWrites", recurses := true, apart := false }
def PackWritesSaid : Prop := packWritesRow.holds Try.pinned (OpenSpec.ofChange packWritesSpec)

/-- ITS FALSE NEIGHBOUR: 'it returns false'. Refute it at one input. -/
def packWritesWrong : ChangeSpec := { name := "packWrites", fn := fun _ => fun
  | [d1, d2, d3, d4] => { results := [.lit (.bool false)], args := [d1, d2, d3, d4] }
  | _ => none }
def PackWritesWrongFalsely : Prop := packWritesRow.holds Try.pinned (OpenSpec.ofChange packWritesWrong)

/-- 'baileylaw02.PackReads': WHATEVER THE INPUT: true; the input reads as it did. -/
def packReadsSpec : ChangeSpec := { name := "packReads", fn := fun _ => fun
  | [d1, d2] => { results := [.lit (.bool true)], args := [d1, d2] }
  | _ => none }
def packReadsRow : OpenClaim := { program := "ytbdlhcgilcpeoaa", sum := "c98029f4c836d27b3a8303f01d971ab1b0245e452f8a294f47edc0f1a76f2cda", func := "bailey/baileylaw02.PackReads", spec := "packReads", apart := false }
def PackReadsSaid : Prop := packReadsRow.holds Try.pinned (OpenSpec.ofChange packReadsSpec)

/-- ITS FALSE NEIGHBOUR: 'it returns false'. Refute it at one input. -/
def packReadsWrong : ChangeSpec := { name := "packReads", fn := fun _ => fun
  | [d1, d2] => { results := [.lit (.bool false)], args := [d1, d2] }
  | _ => none }
def PackReadsWrongFalsely : Prop := packReadsRow.holds Try.pinned (OpenSpec.ofChange packReadsWrong)

/-- 'baileylaw02.PackBack': WHATEVER THE INPUT: true; the input reads as it did. -/
def packBackSpec : ChangeSpec := { name := "packBack", fn := fun _ => fun
  | [d1, d2, d3, d4] => { results := [.lit (.bool true)], args := [d1, d2, d3, d4] }
  | _ => none }
def packBackRow : OpenClaim := { program := "ytbdlhcgilcpeoaa", sum := "c98029f4c836d27b3a8303f01d971ab1b0245e452f8a294f47edc0f1a76f2cda", func := "bailey/baileylaw02.PackBack", spec := "packBack", apart := false }
def PackBackSaid : Prop := packBackRow.holds Try.pinned (OpenSpec.ofChange packBackSpec)

/-- ITS FALSE NEIGHBOUR: 'it returns false'. Refute it at one input. -/
def packBackWrong : ChangeSpec := { name := "packBack", fn := fun _ => fun
  | [d1, d2, d3, d4] => { results := [.lit (.bool false)], args := [d1, d2, d3, d4] }
  | _ => none }
def PackBackWrongFalsely : Prop := packBackRow.holds Try.pinned (OpenSpec.ofChange packBackWrong)

/-- 'baileylaw02.PackOne': WHATEVER THE INPUT: true; the input reads as it did. -/
def packOneSpec : ChangeSpec := { name := "packOne", fn := fun _ => fun
  | [d1, d2] => { results := [.lit (.bool true)], args := [d1, d2] }
  | _ => none }
def packOneRow : OpenClaim := { program := "ytbdlhcgilcpeoaa", sum := "c98029f4c836d27b3a8303f01d971ab1b0245e452f8a294f47edc0f1a76f2cda", func := "bailey/baileylaw02.PackOne", spec := "packOne", apart := false }
def PackOneSaid : Prop := packOneRow.holds Try.pinned (OpenSpec.ofChange packOneSpec)

/-- ITS FALSE NEIGHBOUR: 'it returns false'. Refute it at one input. -/
def packOneWrong : ChangeSpec := { name := "packOne", fn := fun _ => fun
  | [d1, d2] => { results := [.lit (.bool false)], args := [d1, d2] }
  | _ => none }
def PackOneWrongFalsely : Prop := packOneRow.holds Try.pinned (OpenSpec.ofChange packOneWrong)

/-- 'baileylaw02.PackNobody': WHATEVER THE INPUT: true; the input reads as it did. -/
def packNobodySpec : ChangeSpec := { name := "packNobody", fn := fun _ => fun
  | [d] => { results := [.lit (.bool true)], args := [d] }
  | _ => none }
def packNobodyRow : OpenClaim := { program := "ytbdlhcgilcpeoaa", sum := "c98029f4c836d27b3a8303f01d971ab1b0245e452f8a294f47edc0f1a76f2cda", func := "bailey/baileylaw02.PackNobody", spec := "packNobody", apart := false }
def PackNobodySaid : Prop := packNobodyRow.holds Try.pinned (OpenSpec.ofChange packNobodySpec)

/-- ITS FALSE NEIGHBOUR: 'it returns false'. Refute it at one input. -/
def packNobodyWrong : ChangeSpec := { name := "packNobody", fn := fun _ => fun
  | [d] => { results := [.lit (.bool false)], args := [d] }
  | _ => none }
def PackNobodyWrongFalsely : Prop := packNobodyRow.holds Try.pinned (OpenSpec.ofChange packNobodyWrong)

/- THE SECOND FORM. 'bulk': how many values and letters a reading holds, each counted each time it is reached (what is shared counts as often as it is met; a slice's spare places count too). A statement '..UptoSaid' is the law's where the arguments, and the package variables that the reading takes, are together of bulk at most 1048576: NARROWER than '..Said'. Prove '..Said' where nothing that the law and all that it calls make is longer than what came in: it says more and counts as full. Else prove '..UptoSaid'. A law counts once. -/
mutual
def uptoBulk {H : Type} : DataW H → Nat
  | .lit (.string bytes) => bytes.length + 1
  | .lit _ => 1
  | .nil => 1
  | .ptr d => uptoBulk d + 1
  | .slice elems spare => uptoBulkAll elems + uptoBulkAll spare + 1
  | .agg parts => uptoBulkAll parts + 1
  | .iface _ d => uptoBulk d + 1
  | .map entries => uptoBulkEntries entries + 1
  | .held _ => 1
def uptoBulkAll {H : Type} : List (DataW H) → Nat
  | [] => 0
  | d :: r => uptoBulk d + uptoBulkAll r
def uptoBulkEntries {H : Type} : List (Lit × DataW H) → Nat
  | [] => 0
  | x :: r => uptoBulkEntry x + uptoBulkEntries r
def uptoBulkEntry {H : Type} : Lit × DataW H → Nat
  | (.string bytes, d) => bytes.length + uptoBulk d + 1
  | (_, d) => uptoBulk d + 1
 end
def uptoSmall : (H : Type) → List (DataW H) → Bool := fun _ ds => decide (uptoBulkAll ds ≤ 1048576)
def OpenSpec.upto (s : _root_.Go.ChangeSpec) : _root_.Go.OpenSpec := { _root_.Go.OpenSpec.ofChange s with cond := some uptoSmall }

/-- 'baileylaw01.NumsChecked', WHERE WHAT IT READS IS OF BULK AT MOST 1048576: true; the input reads as it did. -/
def numsCheckedUptoRow : OpenClaim := { program := "ytbdlhcgilcpeoaa", sum := "c98029f4c836d27b3a8303f01d971ab1b0245e452f8a294f47edc0f1a76f2cda", func := "bailey/baileylaw01.NumsChecked", spec := "numsChecked", apart := false, narrowed := true }
def NumsCheckedUptoSaid : Prop := numsCheckedUptoRow.holds Try.pinned (OpenSpec.upto numsCheckedSpec)

/-- 'baileylaw01.NumsWithin', WHERE WHAT IT READS IS OF BULK AT MOST 1048576: true; the input reads as it did. -/
def numsWithinUptoRow : OpenClaim := { program := "ytbdlhcgilcpeoaa", sum := "c98029f4c836d27b3a8303f01d971ab1b0245e452f8a294f47edc0f1a76f2cda", func := "bailey/baileylaw01.NumsWithin", spec := "numsWithin", apart := false, narrowed := true }
def NumsWithinUptoSaid : Prop := numsWithinUptoRow.holds Try.pinned (OpenSpec.upto numsWithinSpec)

/-- 'baileylaw01.NumsSums', WHERE WHAT IT READS IS OF BULK AT MOST 1048576: true; the input reads as it did. -/
def numsSumsUptoRow : OpenClaim := { program := "ytbdlhcgilcpeoaa", sum := "c98029f4c836d27b3a8303f01d971ab1b0245e452f8a294f47edc0f1a76f2cda", func := "bailey/baileylaw01.NumsSums", spec := "numsSums", apart := false, narrowed := true }
def NumsSumsUptoSaid : Prop := numsSumsUptoRow.holds Try.pinned (OpenSpec.upto numsSumsSpec)

/-- 'baileylaw01.NumsOrder', WHERE WHAT IT READS IS OF BULK AT MOST 1048576: true; the input reads as it did. -/
def numsOrderUptoRow : OpenClaim := { program := "ytbdlhcgilcpeoaa", sum := "c98029f4c836d27b3a8303f01d971ab1b0245e452f8a294f47edc0f1a76f2cda", func := "bailey/baileylaw01.NumsOrder", spec := "numsOrder", apart := false, narrowed := true }
def NumsOrderUptoSaid : Prop := numsOrderUptoRow.holds Try.pinned (OpenSpec.upto numsOrderSpec)

/-- 'baileylaw01.NumsSets', WHERE WHAT IT READS IS OF BULK AT MOST 1048576: true; the input reads as it did. -/
def numsSetsUptoRow : OpenClaim := { program := "ytbdlhcgilcpeoaa", sum := "c98029f4c836d27b3a8303f01d971ab1b0245e452f8a294f47edc0f1a76f2cda", func := "bailey/baileylaw01.NumsSets", spec := "numsSets", apart := false, narrowed := true }
def NumsSetsUptoSaid : Prop := numsSetsUptoRow.holds Try.pinned (OpenSpec.upto numsSetsSpec)

/-- 'baileylaw01.NumsPut', WHERE WHAT IT READS IS OF BULK AT MOST 1048576: true; the input reads as it did. -/
def numsPutUptoRow : OpenClaim := { program := "ytbdlhcgilcpeoaa", sum := "c98029f4c836d27b3a8303f01d971ab1b0245e452f8a294f47edc0f1a76f2cda", func := "bailey/baileylaw01.NumsPut", spec := "numsPut", apart := false, narrowed := true }
def NumsPutUptoSaid : Prop := numsPutUptoRow.holds Try.pinned (OpenSpec.upto numsPutSpec)

/-- 'baileylaw02.PackWrites', WHERE WHAT IT READS IS OF BULK AT MOST 1048576: true; the input reads as it did. -/
def packWritesUptoRow : OpenClaim := { program := "ytbdlhcgilcpeoaa", sum := "c98029f4c836d27b3a8303f01d971ab1b0245e452f8a294f47edc0f1a76f2cda", func := "bailey/baileylaw02.PackWrites", spec := "packWrites", recurses := true, apart := false, narrowed := true }
def PackWritesUptoSaid : Prop := packWritesUptoRow.holds Try.pinned (OpenSpec.upto packWritesSpec)

/-- 'baileylaw02.PackReads', WHERE WHAT IT READS IS OF BULK AT MOST 1048576: true; the input reads as it did. -/
def packReadsUptoRow : OpenClaim := { program := "ytbdlhcgilcpeoaa", sum := "c98029f4c836d27b3a8303f01d971ab1b0245e452f8a294f47edc0f1a76f2cda", func := "bailey/baileylaw02.PackReads", spec := "packReads", apart := false, narrowed := true }
def PackReadsUptoSaid : Prop := packReadsUptoRow.holds Try.pinned (OpenSpec.upto packReadsSpec)

/-- 'baileylaw02.PackBack', WHERE WHAT IT READS IS OF BULK AT MOST 1048576: true; the input reads as it did. -/
def packBackUptoRow : OpenClaim := { program := "ytbdlhcgilcpeoaa", sum := "c98029f4c836d27b3a8303f01d971ab1b0245e452f8a294f47edc0f1a76f2cda", func := "bailey/baileylaw02.PackBack", spec := "packBack", apart := false, narrowed := true }
def PackBackUptoSaid : Prop := packBackUptoRow.holds Try.pinned (OpenSpec.upto packBackSpec)

/-- 'baileylaw02.PackOne', WHERE WHAT IT READS IS OF BULK AT MOST 1048576: true; the input reads as it did. -/
def packOneUptoRow : OpenClaim := { program := "ytbdlhcgilcpeoaa", sum := "c98029f4c836d27b3a8303f01d971ab1b0245e452f8a294f47edc0f1a76f2cda", func := "bailey/baileylaw02.PackOne", spec := "packOne", apart := false, narrowed := true }
def PackOneUptoSaid : Prop := packOneUptoRow.holds Try.pinned (OpenSpec.upto packOneSpec)

/-- 'baileylaw02.PackNobody', WHERE WHAT IT READS IS OF BULK AT MOST 1048576: true; the input reads as it did. -/
def packNobodyUptoRow : OpenClaim := { program := "ytbdlhcgilcpeoaa", sum := "c98029f4c836d27b3a8303f01d971ab1b0245e452f8a294f47edc0f1a76f2cda", func := "bailey/baileylaw02.PackNobody", spec := "packNobody", apart := false, narrowed := true }
def PackNobodyUptoSaid : Prop := packNobodyUptoRow.holds Try.pinned (OpenSpec.upto packNobodySpec)

end Rows
end Go.Proofs.Ytbdlhcgilcpeoaa
