/-
  No cell of these rows narrows 'for every input' (looked for: loops, veiled, ifaces, maps, wideKeys, modest, calm, conditions, laid).
  DERIVED. THE GIVEN ROWS OF THIS SEAT. 4 by the template 'for every input the law returns true; each argument reads behind the call as it read before'; 0 by the template 'total and deterministic' (their statements: YtcjcnoonfaipoaaTotals.lean).
  GIVEN WITH THE SEED: the statements are not yours to turn. If you find one false, say at which input.
  Laid BY PROGRAM, IN A SANDBOX (cutbox-rows.mjs): the forced cells as the released guide's own fill.sh prints them over the translation 08b2bd075ea58ac6… (all of the seat's roots in one cut). By AI agents, Wed Nov 11 2026. No macro, syntax, notation, axiom, sorry.
-/
import Derived.Test.YtcjcnoonfaipoaaChecked
import GoSem.Claim
import GoSem.ClaimJoined
import GoSem.ClaimMapViews
import Derived.JoinedTies
import Derived.KernelRfl
namespace Go.Proofs.Ytcjcnoonfaipoaa
/- THE CELL 'sum', in the pinned program and in every row, IS THE sha256 OF THE DUMP (.gsa) THAT YtcjcnoonfaipoaaProg.lean LOADS. Nothing in Lean hashes anything: it is a label: what it is worth is what the hold of that sum in a sandbox is worth. -/
noncomputable def Try.pinned : Pinned := { name := "ytcjcnoonfaipoaa", sum := "08b2bd075ea58ac6e1046185ca0b62d73c2ff96ef23a5cf8999b20660491ec0e", checked := Try.checked }
namespace Rows
def none {H : Type} : Left H := { results := [], args := [] }

/-- 'baileylaw12.PeersTells': WHATEVER THE INPUT: true; the input reads as it did. -/
def peersTellsSpec : ChangeSpec := { name := "peersTells", fn := fun _ => fun
  | [d1, d2, d3, d4] => { results := [.lit (.bool true)], args := [d1, d2, d3, d4] }
  | _ => none }
def peersTellsRow : OpenClaim := { program := "ytcjcnoonfaipoaa", sum := "08b2bd075ea58ac6e1046185ca0b62d73c2ff96ef23a5cf8999b20660491ec0e", func := "bailey/baileylaw12.PeersTells", spec := "peersTells", unfollowed := true, recurses := true, apart := false }
def PeersTellsSaid : Prop := peersTellsRow.holds Try.pinned (OpenSpec.ofChange peersTellsSpec)

/-- ITS FALSE NEIGHBOUR: 'it returns false'. Refute it at one input. -/
def peersTellsWrong : ChangeSpec := { name := "peersTells", fn := fun _ => fun
  | [d1, d2, d3, d4] => { results := [.lit (.bool false)], args := [d1, d2, d3, d4] }
  | _ => none }
def PeersTellsWrongFalsely : Prop := peersTellsRow.holds Try.pinned (OpenSpec.ofChange peersTellsWrong)

/-- 'baileylaw12.PeersMatch': WHATEVER THE INPUT: true; the input reads as it did. -/
def peersMatchSpec : ChangeSpec := { name := "peersMatch", fn := fun _ => fun
  | [d1, d2] => { results := [.lit (.bool true)], args := [d1, d2] }
  | _ => none }
def peersMatchRow : OpenClaim := { program := "ytcjcnoonfaipoaa", sum := "08b2bd075ea58ac6e1046185ca0b62d73c2ff96ef23a5cf8999b20660491ec0e", func := "bailey/baileylaw12.PeersMatch", spec := "peersMatch", unfollowed := true, recurses := true, apart := false }
def PeersMatchSaid : Prop := peersMatchRow.holds Try.pinned (OpenSpec.ofChange peersMatchSpec)

/-- ITS FALSE NEIGHBOUR: 'it returns false'. Refute it at one input. -/
def peersMatchWrong : ChangeSpec := { name := "peersMatch", fn := fun _ => fun
  | [d1, d2] => { results := [.lit (.bool false)], args := [d1, d2] }
  | _ => none }
def PeersMatchWrongFalsely : Prop := peersMatchRow.holds Try.pinned (OpenSpec.ofChange peersMatchWrong)

/-- 'baileylaw12.PeersBest': WHATEVER THE INPUT: true; the input reads as it did. -/
def peersBestSpec : ChangeSpec := { name := "peersBest", fn := fun _ => fun
  | [d1, d2] => { results := [.lit (.bool true)], args := [d1, d2] }
  | _ => none }
def peersBestRow : OpenClaim := { program := "ytcjcnoonfaipoaa", sum := "08b2bd075ea58ac6e1046185ca0b62d73c2ff96ef23a5cf8999b20660491ec0e", func := "bailey/baileylaw12.PeersBest", spec := "peersBest", unfollowed := true, recurses := true, apart := false }
def PeersBestSaid : Prop := peersBestRow.holds Try.pinned (OpenSpec.ofChange peersBestSpec)

/-- ITS FALSE NEIGHBOUR: 'it returns false'. Refute it at one input. -/
def peersBestWrong : ChangeSpec := { name := "peersBest", fn := fun _ => fun
  | [d1, d2] => { results := [.lit (.bool false)], args := [d1, d2] }
  | _ => none }
def PeersBestWrongFalsely : Prop := peersBestRow.holds Try.pinned (OpenSpec.ofChange peersBestWrong)

/-- 'baileylaw12.PeersMeet': WHATEVER THE INPUT: true; the input reads as it did. -/
def peersMeetSpec : ChangeSpec := { name := "peersMeet", fn := fun _ => fun
  | [d1, d2, d3, d4] => { results := [.lit (.bool true)], args := [d1, d2, d3, d4] }
  | _ => none }
def peersMeetRow : OpenClaim := { program := "ytcjcnoonfaipoaa", sum := "08b2bd075ea58ac6e1046185ca0b62d73c2ff96ef23a5cf8999b20660491ec0e", func := "bailey/baileylaw12.PeersMeet", spec := "peersMeet", unfollowed := true, recurses := true, apart := false }
def PeersMeetSaid : Prop := peersMeetRow.holds Try.pinned (OpenSpec.ofChange peersMeetSpec)

/-- ITS FALSE NEIGHBOUR: 'it returns false'. Refute it at one input. -/
def peersMeetWrong : ChangeSpec := { name := "peersMeet", fn := fun _ => fun
  | [d1, d2, d3, d4] => { results := [.lit (.bool false)], args := [d1, d2, d3, d4] }
  | _ => none }
def PeersMeetWrongFalsely : Prop := peersMeetRow.holds Try.pinned (OpenSpec.ofChange peersMeetWrong)

/- THE SECOND FORM. 'bulk': how many values and letters a reading holds, each counted each time it is reached (what is shared counts as often as it is met; a slice's spare places count too). A statement '..UptoSaid' is the law's where the arguments, and the package variables that the reading takes, are together of bulk at most 1048576: NARROWER than '..Said'. Prove '..Said' where nothing that the law and all that it calls make is longer than what came in: it says more and counts as full. Else prove '..UptoSaid'. A law counts once. -/
mutual
def uptoBulk {H : Type} : DataW H → Nat
  | .lit (.string bytes) => bytes.length + 1
  | .lit _ => 1
  | .nil => 1
  | .ptr d => uptoBulk d + 1
  | .slice elems spare => uptoBulkAll elems + uptoBulkAll spare + 1
  | .agg parts => uptoBulkAll parts + 1
  | .iface _ d => uptoBulk d + 1
  | .map entries => uptoBulkEntries entries + 1
  | .held _ => 1
def uptoBulkAll {H : Type} : List (DataW H) → Nat
  | [] => 0
  | d :: r => uptoBulk d + uptoBulkAll r
def uptoBulkEntries {H : Type} : List (Lit × DataW H) → Nat
  | [] => 0
  | x :: r => uptoBulkEntry x + uptoBulkEntries r
def uptoBulkEntry {H : Type} : Lit × DataW H → Nat
  | (.string bytes, d) => bytes.length + uptoBulk d + 1
  | (_, d) => uptoBulk d + 1
 end
def uptoSmall : (H : Type) → List (DataW H) → Bool := fun _ ds => decide (uptoBulkAll ds ≤ 1048576)
def OpenSpec.upto (s : _root_.Go.ChangeSpec) : _root_.Go.OpenSpec := { _root_.Go.OpenSpec.ofChange s with cond := some uptoSmall }

/-- 'baileylaw12.PeersTells', WHERE WHAT IT READS IS OF BULK AT MOST 1048576: true; the input reads as it did. -/
def peersTellsUptoRow : OpenClaim := { program := "ytcjcnoonfaipoaa", sum := "08b2bd075ea58ac6e1046185ca0b62d73c2ff96ef23a5cf8999b20660491ec0e", func := "bailey/baileylaw12.PeersTells", spec := "peersTells", unfollowed := true, recurses := true, apart := false, narrowed := true }
def PeersTellsUptoSaid : Prop := peersTellsUptoRow.holds Try.pinned (OpenSpec.upto peersTellsSpec)

/-- 'baileylaw12.PeersMatch', WHERE WHAT IT READS IS OF BULK AT MOST 1048576: true; the input reads as it did. -/
def peersMatchUptoRow : OpenClaim := { program := "ytcjcnoonfaipoaa", sum := "08b2bd075ea58ac6e1046185ca0b62d73c2ff96ef23a5cf8999b20660491ec0e", func := "bailey/baileylaw12.PeersMatch", spec := "peersMatch", unfollowed := true, recurses := true, apart := false, narrowed := true }
def PeersMatchUptoSaid : Prop := peersMatchUptoRow.holds Try.pinned (OpenSpec.upto peersMatchSpec)

/-- 'baileylaw12.PeersBest', WHERE WHAT IT READS IS OF BULK AT MOST 1048576: true; the input reads as it did. -/
def peersBestUptoRow : OpenClaim := { program := "ytcjcnoonfaipoaa", sum := "08b2bd075ea58ac6e1046185ca0b62d73c2ff96ef23a5cf8999b20660491ec0e", func := "bailey/baileylaw12.PeersBest", spec := "peersBest", unfollowed := true, recurses := true, apart := false, narrowed := true }
def PeersBestUptoSaid : Prop := peersBestUptoRow.holds Try.pinned (OpenSpec.upto peersBestSpec)

/-- 'baileylaw12.PeersMeet', WHERE WHAT IT READS IS OF BULK AT MOST 1048576: true; the input reads as it did. -/
def peersMeetUptoRow : OpenClaim := { program := "ytcjcnoonfaipoaa", sum := "08b2bd075ea58ac6e1046185ca0b62d73c2ff96ef23a5cf8999b20660491ec0e", func := "bailey/baileylaw12.PeersMeet", spec := "peersMeet", unfollowed := true, recurses := true, apart := false, narrowed := true }
def PeersMeetUptoSaid : Prop := peersMeetUptoRow.holds Try.pinned (OpenSpec.upto peersMeetSpec)

end Rows
end Go.Proofs.Ytcjcnoonfaipoaa
