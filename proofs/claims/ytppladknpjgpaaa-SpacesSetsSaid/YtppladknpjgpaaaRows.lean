/-
  No cell of these rows narrows 'for every input' (looked for: loops, veiled, ifaces, maps, wideKeys, modest, calm, conditions, laid).
  DERIVED. THE GIVEN ROWS OF THIS SEAT. 4 by the template 'for every input the law returns true; each argument reads behind the call as it read before'; 0 by the template 'total and deterministic' (their statements: YtppladknpjgpaaaTotals.lean).
  GIVEN WITH THE SEED: the statements are not yours to turn. If you find one false, say at which input.
  Laid BY PROGRAM, IN A SANDBOX (cutbox-rows.mjs): the forced cells as the released guide's own fill.sh prints them over the translation 71b293891c77800e… (all of the seat's roots in one cut). By AI agents, Wed Nov 11 2026. No macro, syntax, notation, axiom, sorry.
-/
import Derived.Test.YtppladknpjgpaaaChecked
import GoSem.Claim
import GoSem.ClaimJoined
import GoSem.ClaimMapViews
import Derived.JoinedTies
import Derived.KernelRfl
namespace Go.Proofs.Ytppladknpjgpaaa
/- THE CELL 'sum', in the pinned program and in every row, IS THE sha256 OF THE DUMP (.gsa) THAT YtppladknpjgpaaaProg.lean LOADS. Nothing in Lean hashes anything: it is a label: what it is worth is what the hold of that sum in a sandbox is worth. -/
noncomputable def Try.pinned : Pinned := { name := "ytppladknpjgpaaa", sum := "71b293891c77800e667c1e05a2348d254db81cf4778e3fede92f42b921427fbb", checked := Try.checked }
namespace Rows
def none {H : Type} : Left H := { results := [], args := [] }

/-- 'baileylaw18.SpacesSets': WHATEVER THE INPUT: true; the input reads as it did. -/
def spacesSetsSpec : ChangeSpec := { name := "spacesSets", fn := fun _ => fun
  | [d1, d2, d3] => { results := [.lit (.bool true)], args := [d1, d2, d3] }
  | _ => none }
def spacesSetsRow : OpenClaim := { program := "ytppladknpjgpaaa", sum := "71b293891c77800e667c1e05a2348d254db81cf4778e3fede92f42b921427fbb", func := "bailey/baileylaw18.SpacesSets", spec := "spacesSets", inPlace := ["slices.overlaps[bailey/api.Space]"], unfollowed := true, recurses := true, apart := false }
def SpacesSetsSaid : Prop := spacesSetsRow.holds Try.pinned (OpenSpec.ofChange spacesSetsSpec)

/-- ITS FALSE NEIGHBOUR: 'it returns false'. Refute it at one input. -/
def spacesSetsWrong : ChangeSpec := { name := "spacesSets", fn := fun _ => fun
  | [d1, d2, d3] => { results := [.lit (.bool false)], args := [d1, d2, d3] }
  | _ => none }
def SpacesSetsWrongFalsely : Prop := spacesSetsRow.holds Try.pinned (OpenSpec.ofChange spacesSetsWrong)

/-- 'baileylaw18.SpacesMay': WHATEVER THE INPUT: true; the input reads as it did. -/
def spacesMaySpec : ChangeSpec := { name := "spacesMay", fn := fun _ => fun
  | [d1, d2, d3, d4] => { results := [.lit (.bool true)], args := [d1, d2, d3, d4] }
  | _ => none }
def spacesMayRow : OpenClaim := { program := "ytppladknpjgpaaa", sum := "71b293891c77800e667c1e05a2348d254db81cf4778e3fede92f42b921427fbb", func := "bailey/baileylaw18.SpacesMay", spec := "spacesMay", inPlace := ["slices.overlaps[bailey/api.Space]"], unfollowed := true, recurses := true, apart := false }
def SpacesMaySaid : Prop := spacesMayRow.holds Try.pinned (OpenSpec.ofChange spacesMaySpec)

/-- ITS FALSE NEIGHBOUR: 'it returns false'. Refute it at one input. -/
def spacesMayWrong : ChangeSpec := { name := "spacesMay", fn := fun _ => fun
  | [d1, d2, d3, d4] => { results := [.lit (.bool false)], args := [d1, d2, d3, d4] }
  | _ => none }
def SpacesMayWrongFalsely : Prop := spacesMayRow.holds Try.pinned (OpenSpec.ofChange spacesMayWrong)

/-- 'baileylaw18.SpacesCodes': WHATEVER THE INPUT: true; the input reads as it did. -/
def spacesCodesSpec : ChangeSpec := { name := "spacesCodes", fn := fun _ => fun
  | [d1, d2, d3] => { results := [.lit (.bool true)], args := [d1, d2, d3] }
  | _ => none }
def spacesCodesRow : OpenClaim := { program := "ytppladknpjgpaaa", sum := "71b293891c77800e667c1e05a2348d254db81cf4778e3fede92f42b921427fbb", func := "bailey/baileylaw18.SpacesCodes", spec := "spacesCodes", inPlace := ["slices.overlaps[bailey/api.Space]"], unfollowed := true, recurses := true, apart := false }
def SpacesCodesSaid : Prop := spacesCodesRow.holds Try.pinned (OpenSpec.ofChange spacesCodesSpec)

/-- ITS FALSE NEIGHBOUR: 'it returns false'. Refute it at one input. -/
def spacesCodesWrong : ChangeSpec := { name := "spacesCodes", fn := fun _ => fun
  | [d1, d2, d3] => { results := [.lit (.bool false)], args := [d1, d2, d3] }
  | _ => none }
def SpacesCodesWrongFalsely : Prop := spacesCodesRow.holds Try.pinned (OpenSpec.ofChange spacesCodesWrong)

/-- 'baileylaw18.SpacesStay': WHATEVER THE INPUT: true; the input reads as it did. -/
def spacesStaySpec : ChangeSpec := { name := "spacesStay", fn := fun _ => fun
  | [d1, d2, d3] => { results := [.lit (.bool true)], args := [d1, d2, d3] }
  | _ => none }
def spacesStayRow : OpenClaim := { program := "ytppladknpjgpaaa", sum := "71b293891c77800e667c1e05a2348d254db81cf4778e3fede92f42b921427fbb", func := "bailey/baileylaw18.SpacesStay", spec := "spacesStay", inPlace := ["slices.overlaps[bailey/api.Space]"], unfollowed := true, recurses := true, apart := false }
def SpacesStaySaid : Prop := spacesStayRow.holds Try.pinned (OpenSpec.ofChange spacesStaySpec)

/-- ITS FALSE NEIGHBOUR: 'it returns false'. Refute it at one input. -/
def spacesStayWrong : ChangeSpec := { name := "spacesStay", fn := fun _ => fun
  | [d1, d2, d3] => { results := [.lit (.bool false)], args := [d1, d2, d3] }
  | _ => none }
def SpacesStayWrongFalsely : Prop := spacesStayRow.holds Try.pinned (OpenSpec.ofChange spacesStayWrong)

/- THE SECOND FORM. 'bulk': how many values and letters a reading holds, each counted each time it is reached (what is shared counts as often as it is met; a slice's spare places count too). A statement '..UptoSaid' is the law's where the arguments, and the package variables that the reading takes, are together of bulk at most 1048576: NARROWER than '..Said'. Prove '..Said' where nothing that the law and all that it calls make is longer than what came in: it says more and counts as full. Else prove '..UptoSaid'. A law counts once. -/
mutual
def uptoBulk {H : Type} : DataW H → Nat
  | .lit (.string bytes) => bytes.length + 1
  | .lit _ => 1
  | .nil => 1
  | .ptr d => uptoBulk d + 1
  | .slice elems spare => uptoBulkAll elems + uptoBulkAll spare + 1
  | .agg parts => uptoBulkAll parts + 1
  | .iface _ d => uptoBulk d + 1
  | .map entries => uptoBulkEntries entries + 1
  | .held _ => 1
def uptoBulkAll {H : Type} : List (DataW H) → Nat
  | [] => 0
  | d :: r => uptoBulk d + uptoBulkAll r
def uptoBulkEntries {H : Type} : List (Lit × DataW H) → Nat
  | [] => 0
  | x :: r => uptoBulkEntry x + uptoBulkEntries r
def uptoBulkEntry {H : Type} : Lit × DataW H → Nat
  | (.string bytes, d) => bytes.length + uptoBulk d + 1
  | (_, d) => uptoBulk d + 1
 end
def uptoSmall : (H : Type) → List (DataW H) → Bool := fun _ ds => decide (uptoBulkAll ds ≤ 1048576)
def OpenSpec.upto (s : _root_.Go.ChangeSpec) : _root_.Go.OpenSpec := { _root_.Go.OpenSpec.ofChange s with cond := some uptoSmall }

/-- 'baileylaw18.SpacesSets', WHERE WHAT IT READS IS OF BULK AT MOST 1048576: true; the input reads as it did. -/
def spacesSetsUptoRow : OpenClaim := { program := "ytppladknpjgpaaa", sum := "71b293891c77800e667c1e05a2348d254db81cf4778e3fede92f42b921427fbb", func := "bailey/baileylaw18.SpacesSets", spec := "spacesSets", inPlace := ["slices.overlaps[bailey/api.Space]"], unfollowed := true, recurses := true, apart := false, narrowed := true }
def SpacesSetsUptoSaid : Prop := spacesSetsUptoRow.holds Try.pinned (OpenSpec.upto spacesSetsSpec)

/-- 'baileylaw18.SpacesMay', WHERE WHAT IT READS IS OF BULK AT MOST 1048576: true; the input reads as it did. -/
def spacesMayUptoRow : OpenClaim := { program := "ytppladknpjgpaaa", sum := "71b293891c77800e667c1e05a2348d254db81cf4778e3fede92f42b921427fbb", func := "bailey/baileylaw18.SpacesMay", spec := "spacesMay", inPlace := ["slices.overlaps[bailey/api.Space]"], unfollowed := true, recurses := true, apart := false, narrowed := true }
def SpacesMayUptoSaid : Prop := spacesMayUptoRow.holds Try.pinned (OpenSpec.upto spacesMaySpec)

/-- 'baileylaw18.SpacesCodes', WHERE WHAT IT READS IS OF BULK AT MOST 1048576: true; the input reads as it did. -/
def spacesCodesUptoRow : OpenClaim := { program := "ytppladknpjgpaaa", sum := "71b293891c77800e667c1e05a2348d254db81cf4778e3fede92f42b921427fbb", func := "bailey/baileylaw18.SpacesCodes", spec := "spacesCodes", inPlace := ["slices.overlaps[bailey/api.Space]"], unfollowed := true, recurses := true, apart := false, narrowed := true }
def SpacesCodesUptoSaid : Prop := spacesCodesUptoRow.holds Try.pinned (OpenSpec.upto spacesCodesSpec)

/-- 'baileylaw18.SpacesStay', WHERE WHAT IT READS IS OF BULK AT MOST 1048576: true; the input reads as it did. -/
def spacesStayUptoRow : OpenClaim := { program := "ytppladknpjgpaaa", sum := "71b293891c77800e667c1e05a2348d254db81cf4778e3fede92f42b921427fbb", func := "bailey/baileylaw18.SpacesStay", spec := "spacesStay", inPlace := ["slices.overlaps[bailey/api.Space]"], unfollowed := true, recurses := true, apart := false, narrowed := true }
def SpacesStayUptoSaid : Prop := spacesStayUptoRow.holds Try.pinned (OpenSpec.upto spacesStaySpec)

end Rows
end Go.Proofs.Ytppladknpjgpaaa
