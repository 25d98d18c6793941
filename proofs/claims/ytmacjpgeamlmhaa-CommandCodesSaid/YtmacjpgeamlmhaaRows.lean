/-
  No cell of these rows narrows 'for every input' (looked for: loops, veiled, ifaces, maps, wideKeys, modest, calm, conditions, laid).
  DERIVED. THE GIVEN ROWS OF THIS SEAT. 4 by the template 'for every input the law returns true; each argument reads behind the call as it read before'; 0 by the template 'total and deterministic' (their statements: YtmacjpgeamlmhaaTotals.lean).
  GIVEN WITH THE SEED: the statements are not yours to turn. If you find one false, say at which input.
  Laid BY PROGRAM, IN A SANDBOX (cutbox-rows.mjs): the forced cells as the released guide's own fill.sh prints them over the translation fedd265fd67140cb… (all of the seat's roots in one cut). By AI agents, Wed Nov 11 2026. No macro, syntax, notation, axiom, sorry.
-/
import Derived.Test.YtmacjpgeamlmhaaChecked
import GoSem.Claim
import GoSem.ClaimJoined
import GoSem.ClaimMapViews
import Derived.JoinedTies
import Derived.KernelRfl
namespace Go.Proofs.Ytmacjpgeamlmhaa
/- THE CELL 'sum', in the pinned program and in every row, IS THE sha256 OF THE DUMP (.gsa) THAT YtmacjpgeamlmhaaProg.lean LOADS. Nothing in Lean hashes anything: it is a label: what it is worth is what the hold of that sum in a sandbox is worth. -/
noncomputable def Try.pinned : Pinned := { name := "ytmacjpgeamlmhaa", sum := "fedd265fd67140cbdd723d5a484873f890fb4224b17af72fccda56936a7f36b2", checked := Try.checked }
namespace Rows
def none {H : Type} : Left H := { results := [], args := [] }

/-- 'baileylaw23.CommandCodes': WHATEVER THE INPUT: true; the input reads as it did. -/
def commandCodesSpec : ChangeSpec := { name := "commandCodes", fn := fun _ => fun
  | [d1, d2, d3] => { results := [.lit (.bool true)], args := [d1, d2, d3] }
  | _ => none }
def commandCodesRow : OpenClaim := { program := "ytmacjpgeamlmhaa", sum := "fedd265fd67140cbdd723d5a484873f890fb4224b17af72fccda56936a7f36b2", func := "bailey/baileylaw23.CommandCodes", spec := "commandCodes", unfollowed := true, recurses := true, apart := false }
def CommandCodesSaid : Prop := commandCodesRow.holds Try.pinned (OpenSpec.ofChange commandCodesSpec)

/-- ITS FALSE NEIGHBOUR: 'it returns false'. Refute it at one input. -/
def commandCodesWrong : ChangeSpec := { name := "commandCodes", fn := fun _ => fun
  | [d1, d2, d3] => { results := [.lit (.bool false)], args := [d1, d2, d3] }
  | _ => none }
def CommandCodesWrongFalsely : Prop := commandCodesRow.holds Try.pinned (OpenSpec.ofChange commandCodesWrong)

/-- 'baileylaw23.CommandBack': WHATEVER THE INPUT: true; the input reads as it did. -/
def commandBackSpec : ChangeSpec := { name := "commandBack", fn := fun _ => fun
  | [d1, d2] => { results := [.lit (.bool true)], args := [d1, d2] }
  | _ => none }
def commandBackRow : OpenClaim := { program := "ytmacjpgeamlmhaa", sum := "fedd265fd67140cbdd723d5a484873f890fb4224b17af72fccda56936a7f36b2", func := "bailey/baileylaw23.CommandBack", spec := "commandBack", unfollowed := true, recurses := true, apart := false }
def CommandBackSaid : Prop := commandBackRow.holds Try.pinned (OpenSpec.ofChange commandBackSpec)

/-- ITS FALSE NEIGHBOUR: 'it returns false'. Refute it at one input. -/
def commandBackWrong : ChangeSpec := { name := "commandBack", fn := fun _ => fun
  | [d1, d2] => { results := [.lit (.bool false)], args := [d1, d2] }
  | _ => none }
def CommandBackWrongFalsely : Prop := commandBackRow.holds Try.pinned (OpenSpec.ofChange commandBackWrong)

/-- 'baileylaw23.CommandDeeds': WHATEVER THE INPUT: true; the input reads as it did. -/
def commandDeedsSpec : ChangeSpec := { name := "commandDeeds", fn := fun _ => fun
  | [d1, d2, d3] => { results := [.lit (.bool true)], args := [d1, d2, d3] }
  | _ => none }
def commandDeedsRow : OpenClaim := { program := "ytmacjpgeamlmhaa", sum := "fedd265fd67140cbdd723d5a484873f890fb4224b17af72fccda56936a7f36b2", func := "bailey/baileylaw23.CommandDeeds", spec := "commandDeeds", unfollowed := true, recurses := true, apart := false }
def CommandDeedsSaid : Prop := commandDeedsRow.holds Try.pinned (OpenSpec.ofChange commandDeedsSpec)

/-- ITS FALSE NEIGHBOUR: 'it returns false'. Refute it at one input. -/
def commandDeedsWrong : ChangeSpec := { name := "commandDeeds", fn := fun _ => fun
  | [d1, d2, d3] => { results := [.lit (.bool false)], args := [d1, d2, d3] }
  | _ => none }
def CommandDeedsWrongFalsely : Prop := commandDeedsRow.holds Try.pinned (OpenSpec.ofChange commandDeedsWrong)

/-- 'baileylaw23.CommandOf': WHATEVER THE INPUT: true; the input reads as it did. -/
def commandOfSpec : ChangeSpec := { name := "commandOf", fn := fun _ => fun
  | [d] => { results := [.lit (.bool true)], args := [d] }
  | _ => none }
def commandOfRow : OpenClaim := { program := "ytmacjpgeamlmhaa", sum := "fedd265fd67140cbdd723d5a484873f890fb4224b17af72fccda56936a7f36b2", func := "bailey/baileylaw23.CommandOf", spec := "commandOf", unfollowed := true, recurses := true, apart := false }
def CommandOfSaid : Prop := commandOfRow.holds Try.pinned (OpenSpec.ofChange commandOfSpec)

/-- ITS FALSE NEIGHBOUR: 'it returns false'. Refute it at one input. -/
def commandOfWrong : ChangeSpec := { name := "commandOf", fn := fun _ => fun
  | [d] => { results := [.lit (.bool false)], args := [d] }
  | _ => none }
def CommandOfWrongFalsely : Prop := commandOfRow.holds Try.pinned (OpenSpec.ofChange commandOfWrong)

/- THE SECOND FORM. 'bulk': how many values and letters a reading holds, each counted each time it is reached (what is shared counts as often as it is met; a slice's spare places count too). A statement '..UptoSaid' is the law's where the arguments, and the package variables that the reading takes, are together of bulk at most 1048576: NARROWER than '..Said'. Prove '..Said' where nothing that the law and all that it calls make is longer than what came in: it says more and counts as full. Else prove '..UptoSaid'. A law counts once. -/
mutual
def uptoBulk {H : Type} : DataW H → Nat
  | .lit (.string bytes) => bytes.length + 1
  | .lit _ => 1
  | .nil => 1
  | .ptr d => uptoBulk d + 1
  | .slice elems spare => uptoBulkAll elems + uptoBulkAll spare + 1
  | .agg parts => uptoBulkAll parts + 1
  | .iface _ d => uptoBulk d + 1
  | .map entries => uptoBulkEntries entries + 1
  | .held _ => 1
def uptoBulkAll {H : Type} : List (DataW H) → Nat
  | [] => 0
  | d :: r => uptoBulk d + uptoBulkAll r
def uptoBulkEntries {H : Type} : List (Lit × DataW H) → Nat
  | [] => 0
  | x :: r => uptoBulkEntry x + uptoBulkEntries r
def uptoBulkEntry {H : Type} : Lit × DataW H → Nat
  | (.string bytes, d) => bytes.length + uptoBulk d + 1
  | (_, d) => uptoBulk d + 1
 end
def uptoSmall : (H : Type) → List (DataW H) → Bool := fun _ ds => decide (uptoBulkAll ds ≤ 1048576)
def OpenSpec.upto (s : _root_.Go.ChangeSpec) : _root_.Go.OpenSpec := { _root_.Go.OpenSpec.ofChange s with cond := some uptoSmall }

/-- 'baileylaw23.CommandCodes', WHERE WHAT IT READS IS OF BULK AT MOST 1048576: true; the input reads as it did. -/
def commandCodesUptoRow : OpenClaim := { program := "ytmacjpgeamlmhaa", sum := "fedd265fd67140cbdd723d5a484873f890fb4224b17af72fccda56936a7f36b2", func := "bailey/baileylaw23.CommandCodes", spec := "commandCodes", unfollowed := true, recurses := true, apart := false, narrowed := true }
def CommandCodesUptoSaid : Prop := commandCodesUptoRow.holds Try.pinned (OpenSpec.upto commandCodesSpec)

/-- 'baileylaw23.CommandBack', WHERE WHAT IT READS IS OF BULK AT MOST 1048576: true; the input reads as it did. -/
def commandBackUptoRow : OpenClaim := { program := "ytmacjpgeamlmhaa", sum := "fedd265fd67140cbdd723d5a484873f890fb4224b17af72fccda56936a7f36b2", func := "bailey/baileylaw23.CommandBack", spec := "commandBack", unfollowed := true, recurses := true, apart := false, narrowed := true }
def CommandBackUptoSaid : Prop := commandBackUptoRow.holds Try.pinned (OpenSpec.upto commandBackSpec)

/-- 'baileylaw23.CommandDeeds', WHERE WHAT IT READS IS OF BULK AT MOST 1048576: true; the input reads as it did. -/
def commandDeedsUptoRow : OpenClaim := { program := "ytmacjpgeamlmhaa", sum := "fedd265fd67140cbdd723d5a484873f890fb4224b17af72fccda56936a7f36b2", func := "bailey/baileylaw23.CommandDeeds", spec := "commandDeeds", unfollowed := true, recurses := true, apart := false, narrowed := true }
def CommandDeedsUptoSaid : Prop := commandDeedsUptoRow.holds Try.pinned (OpenSpec.upto commandDeedsSpec)

/-- 'baileylaw23.CommandOf', WHERE WHAT IT READS IS OF BULK AT MOST 1048576: true; the input reads as it did. -/
def commandOfUptoRow : OpenClaim := { program := "ytmacjpgeamlmhaa", sum := "fedd265fd67140cbdd723d5a484873f890fb4224b17af72fccda56936a7f36b2", func := "bailey/baileylaw23.CommandOf", spec := "commandOf", unfollowed := true, recurses := true, apart := false, narrowed := true }
def CommandOfUptoSaid : Prop := commandOfUptoRow.holds Try.pinned (OpenSpec.upto commandOfSpec)

end Rows
end Go.Proofs.Ytmacjpgeamlmhaa
