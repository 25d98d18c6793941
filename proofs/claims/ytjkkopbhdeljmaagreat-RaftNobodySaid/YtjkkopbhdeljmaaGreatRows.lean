/-
  No cell of these rows narrows 'for every input' (looked for: loops, veiled, ifaces, maps, wideKeys, modest, calm, conditions, laid).
  DERIVED. THE GIVEN ROWS OF THIS SEAT. 2 by the template 'for every input the law returns true; each argument reads behind the call as it read before'; 0 by the template 'total and deterministic' (their statements: YtjkkopbhdeljmaaGreatTotals.lean).
  GIVEN WITH THE SEED: the statements are not yours to turn. If you find one false, say at which input.
  Laid BY PROGRAM, IN A SANDBOX (cutbox-rows.mjs): the forced cells as the released guide's own fill.sh prints them over the translation e1f2c149b02ec117… (all of the seat's roots in one cut). By AI agents, Wed Nov 11 2026. No macro, syntax, notation, axiom, sorry.
-/
import Derived.Test.YtjkkopbhdeljmaaGreatChecked
import GoSem.Claim
import GoSem.ClaimJoined
import GoSem.ClaimMapViews
import Derived.JoinedTies
import Derived.KernelRfl
namespace Go.Proofs.YtjkkopbhdeljmaaGreat
/- THE CELL 'sum', in the pinned program and in every row, IS THE sha256 OF THE DUMP (.gsa) THAT YtjkkopbhdeljmaaGreatProg.lean LOADS. Nothing in Lean hashes anything: it is a label: what it is worth is what the hold of that sum in a sandbox is worth. -/
noncomputable def Tryz.pinned : Pinned := { name := "ytjkkopbhdeljmaagreat", sum := "e1f2c149b02ec11745c7e63e50674c38e31e6f7e05412ff67f18e7ad5a2f0e62", checked := Tryz.checked }
namespace Rows
def none {H : Type} : Left H := { results := [], args := [] }

/-- 'baileylaw17.RaftRises': WHATEVER THE INPUT: true; the input reads as it did. -/
def raftRisesSpec : ChangeSpec := { name := "raftRises", fn := fun _ => fun
  | [d1, d2, d3] => { results := [.lit (.bool true)], args := [d1, d2, d3] }
  | _ => none }
def raftRisesRow : OpenClaim := { program := "ytjkkopbhdeljmaagreat", sum := "e1f2c149b02ec11745c7e63e50674c38e31e6f7e05412ff67f18e7ad5a2f0e62", func := "bailey/baileylaw17.RaftRises", spec := "raftRises", unfollowed := true, recurses := true, apart := false }
def RaftRisesSaid : Prop := raftRisesRow.holds Tryz.pinned (OpenSpec.ofChange raftRisesSpec)

/-- ITS FALSE NEIGHBOUR: 'it returns false'. Refute it at one input. -/
def raftRisesWrong : ChangeSpec := { name := "raftRises", fn := fun _ => fun
  | [d1, d2, d3] => { results := [.lit (.bool false)], args := [d1, d2, d3] }
  | _ => none }
def RaftRisesWrongFalsely : Prop := raftRisesRow.holds Tryz.pinned (OpenSpec.ofChange raftRisesWrong)

/-- 'baileylaw17.RaftNobody': WHATEVER THE INPUT: true; the input reads as it did. -/
def raftNobodySpec : ChangeSpec := { name := "raftNobody", fn := fun _ => fun
  | [d1, d2, d3] => { results := [.lit (.bool true)], args := [d1, d2, d3] }
  | _ => none }
def raftNobodyRow : OpenClaim := { program := "ytjkkopbhdeljmaagreat", sum := "e1f2c149b02ec11745c7e63e50674c38e31e6f7e05412ff67f18e7ad5a2f0e62", func := "bailey/baileylaw17.RaftNobody", spec := "raftNobody", unfollowed := true, recurses := true, apart := false }
def RaftNobodySaid : Prop := raftNobodyRow.holds Tryz.pinned (OpenSpec.ofChange raftNobodySpec)

/-- ITS FALSE NEIGHBOUR: 'it returns false'. Refute it at one input. -/
def raftNobodyWrong : ChangeSpec := { name := "raftNobody", fn := fun _ => fun
  | [d1, d2, d3] => { results := [.lit (.bool false)], args := [d1, d2, d3] }
  | _ => none }
def RaftNobodyWrongFalsely : Prop := raftNobodyRow.holds Tryz.pinned (OpenSpec.ofChange raftNobodyWrong)

/- THE SECOND FORM. 'bulk': how many values and letters a reading holds, each counted each time it is reached (what is shared counts as often as it is met; a slice's spare places count too). A statement '..UptoSaid' is the law's where the arguments, and the package variables that the reading takes, are together of bulk at most 1048576: NARROWER than '..Said'. Prove '..Said' where nothing that the law and all that it calls make is longer than what came in: it says more and counts as full. Else prove '..UptoSaid'. A law counts once. -/
mutual
def uptoBulk {H : Type} : DataW H → Nat
  | .lit (.string bytes) => bytes.length + 1
  | .lit _ => 1
  | .nil => 1
  | .ptr d => uptoBulk d + 1
  | .slice elems spare => uptoBulkAll elems + uptoBulkAll spare + 1
  | .agg parts => uptoBulkAll parts + 1
  | .iface _ d => uptoBulk d + 1
  | .map entries => uptoBulkEntries entries + 1
  | .held _ => 1
def uptoBulkAll {H : Type} : List (DataW H) → Nat
  | [] => 0
  | d :: r => uptoBulk d + uptoBulkAll r
def uptoBulkEntries {H : Type} : List (Lit × DataW H) → Nat
  | [] => 0
  | x :: r => uptoBulkEntry x + uptoBulkEntries r
def uptoBulkEntry {H : Type} : Lit × DataW H → Nat
  | (.string bytes, d) => bytes.length + uptoBulk d + 1
  | (_, d) => uptoBulk d + 1
 end
def uptoSmall : (H : Type) → List (DataW H) → Bool := fun _ ds => decide (uptoBulkAll ds ≤ 1048576)
def OpenSpec.upto (s : _root_.Go.ChangeSpec) : _root_.Go.OpenSpec := { _root_.Go.OpenSpec.ofChange s with cond := some uptoSmall }

/-- 'baileylaw17.RaftRises', WHERE WHAT IT READS IS OF BULK AT MOST 1048576: true; the input reads as it did. -/
def raftRisesUptoRow : OpenClaim := { program := "ytjkkopbhdeljmaagreat", sum := "e1f2c149b02ec11745c7e63e50674c38e31e6f7e05412ff67f18e7ad5a2f0e62", func := "bailey/baileylaw17.RaftRises", spec := "raftRises", unfollowed := true, recurses := true, apart := false, narrowed := true }
def RaftRisesUptoSaid : Prop := raftRisesUptoRow.holds Tryz.pinned (OpenSpec.upto raftRisesSpec)

/-- 'baileylaw17.RaftNobody', WHERE WHAT IT READS IS OF BULK AT MOST 1048576: true; the input reads as it did. -/
def raftNobodyUptoRow : OpenClaim := { program := "ytjkkopbhdeljmaagreat", sum := "e1f2c149b02ec11745c7e63e50674c38e31e6f7e05412ff67f18e7ad5a2f0e62", func := "bailey/baileylaw17.RaftNobody", spec := "raftNobody", unfollowed := true, recurses := true, apart := false, narrowed := true }
def RaftNobodyUptoSaid : Prop := raftNobodyUptoRow.holds Tryz.pinned (OpenSpec.upto raftNobodySpec)

end Rows
end Go.Proofs.YtjkkopbhdeljmaaGreat
