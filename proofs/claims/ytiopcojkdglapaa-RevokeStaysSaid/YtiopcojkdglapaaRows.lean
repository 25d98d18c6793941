/-
  No cell of these rows narrows 'for every input' (looked for: loops, veiled, ifaces, maps, wideKeys, modest, calm, conditions, laid).
  DERIVED. THE GIVEN ROWS OF THIS SEAT. 11 by the template 'for every input the law returns true; each argument reads behind the call as it read before'; 0 by the template 'total and deterministic' (their statements: YtiopcojkdglapaaTotals.lean).
  GIVEN WITH THE SEED: the statements are not yours to turn. If you find one false, say at which input.
  Laid BY PROGRAM, IN A SANDBOX (cutbox-rows.mjs): the forced cells as the released guide's own fill.sh prints them over the translation 04eca4d21d44eea3… (all of the seat's roots in one cut). By AI agents, Wed Nov 11 2026. No macro, syntax, notation, axiom, sorry.
-/
import Derived.Test.YtiopcojkdglapaaChecked
import GoSem.Claim
import GoSem.ClaimJoined
import GoSem.ClaimMapViews
import Derived.JoinedTies
import Derived.KernelRfl
namespace Go.Proofs.Ytiopcojkdglapaa
/- THE CELL 'sum', in the pinned program and in every row, IS THE sha256 OF THE DUMP (.gsa) THAT YtiopcojkdglapaaProg.lean LOADS. Nothing in Lean hashes anything: it is a label: what it is worth is what the hold of that sum in a sandbox is worth. -/
noncomputable def Try.pinned : Pinned := { name := "ytiopcojkdglapaa", sum := "04eca4d21d44eea3c7a1cfe66eaafd515a11442bbdbe6b390d29b46b2696163a", checked := Try.checked }
namespace Rows
def none {H : Type} : Left H := { results := [], args := [] }

/-- 'baileylaw18.SpacesSets': WHATEVER THE INPUT: true; the input reads as it did. -/
def spacesSetsSpec : ChangeSpec := { name := "spacesSets", fn := fun _ => fun
  | [d1, d2, d3] => { results := [.lit (.bool true)], args := [d1, d2, d3] }
  | _ => none }
def spacesSetsRow : OpenClaim := { program := "ytiopcojkdglapaa", sum := "04eca4d21d44eea3c7a1cfe66eaafd515a11442bbdbe6b390d29b46b2696163a", func := "bailey/baileylaw18.SpacesSets", spec := "spacesSets", unfollowed := true, recurses := true, apart := false }
def SpacesSetsSaid : Prop := spacesSetsRow.holds Try.pinned (OpenSpec.ofChange spacesSetsSpec)

/-- ITS FALSE NEIGHBOUR: 'it returns false'. Refute it at one input. -/
def spacesSetsWrong : ChangeSpec := { name := "spacesSets", fn := fun _ => fun
  | [d1, d2, d3] => { results := [.lit (.bool false)], args := [d1, d2, d3] }
  | _ => none }
def SpacesSetsWrongFalsely : Prop := spacesSetsRow.holds Try.pinned (OpenSpec.ofChange spacesSetsWrong)

/-- 'baileylaw18.SpacesMay': WHATEVER THE INPUT: true; the input reads as it did. -/
def spacesMaySpec : ChangeSpec := { name := "spacesMay", fn := fun _ => fun
  | [d1, d2, d3, d4] => { results := [.lit (.bool true)], args := [d1, d2, d3, d4] }
  | _ => none }
def spacesMayRow : OpenClaim := { program := "ytiopcojkdglapaa", sum := "04eca4d21d44eea3c7a1cfe66eaafd515a11442bbdbe6b390d29b46b2696163a", func := "bailey/baileylaw18.SpacesMay", spec := "spacesMay", unfollowed := true, recurses := true, apart := false }
def SpacesMaySaid : Prop := spacesMayRow.holds Try.pinned (OpenSpec.ofChange spacesMaySpec)

/-- ITS FALSE NEIGHBOUR: 'it returns false'. Refute it at one input. -/
def spacesMayWrong : ChangeSpec := { name := "spacesMay", fn := fun _ => fun
  | [d1, d2, d3, d4] => { results := [.lit (.bool false)], args := [d1, d2, d3, d4] }
  | _ => none }
def SpacesMayWrongFalsely : Prop := spacesMayRow.holds Try.pinned (OpenSpec.ofChange spacesMayWrong)

/-- 'baileylaw18.SpacesCodes': WHATEVER THE INPUT: true; the input reads as it did. -/
def spacesCodesSpec : ChangeSpec := { name := "spacesCodes", fn := fun _ => fun
  | [d1, d2, d3] => { results := [.lit (.bool true)], args := [d1, d2, d3] }
  | _ => none }
def spacesCodesRow : OpenClaim := { program := "ytiopcojkdglapaa", sum := "04eca4d21d44eea3c7a1cfe66eaafd515a11442bbdbe6b390d29b46b2696163a", func := "bailey/baileylaw18.SpacesCodes", spec := "spacesCodes", unfollowed := true, recurses := true, apart := false }
def SpacesCodesSaid : Prop := spacesCodesRow.holds Try.pinned (OpenSpec.ofChange spacesCodesSpec)

/-- ITS FALSE NEIGHBOUR: 'it returns false'. Refute it at one input. -/
def spacesCodesWrong : ChangeSpec := { name := "spacesCodes", fn := fun _ => fun
  | [d1, d2, d3] => { results := [.lit (.bool false)], args := [d1, d2, d3] }
  | _ => none }
def SpacesCodesWrongFalsely : Prop := spacesCodesRow.holds Try.pinned (OpenSpec.ofChange spacesCodesWrong)

/-- 'baileylaw18.SpacesStay': WHATEVER THE INPUT: true; the input reads as it did. -/
def spacesStaySpec : ChangeSpec := { name := "spacesStay", fn := fun _ => fun
  | [d1, d2, d3] => { results := [.lit (.bool true)], args := [d1, d2, d3] }
  | _ => none }
def spacesStayRow : OpenClaim := { program := "ytiopcojkdglapaa", sum := "04eca4d21d44eea3c7a1cfe66eaafd515a11442bbdbe6b390d29b46b2696163a", func := "bailey/baileylaw18.SpacesStay", spec := "spacesStay", unfollowed := true, recurses := true, apart := false }
def SpacesStaySaid : Prop := spacesStayRow.holds Try.pinned (OpenSpec.ofChange spacesStaySpec)

/-- ITS FALSE NEIGHBOUR: 'it returns false'. Refute it at one input. -/
def spacesStayWrong : ChangeSpec := { name := "spacesStay", fn := fun _ => fun
  | [d1, d2, d3] => { results := [.lit (.bool false)], args := [d1, d2, d3] }
  | _ => none }
def SpacesStayWrongFalsely : Prop := spacesStayRow.holds Try.pinned (OpenSpec.ofChange spacesStayWrong)

/-- 'baileylaw19.LedgerOnce': WHATEVER THE INPUT: true; the input reads as it did. -/
def ledgerOnceSpec : ChangeSpec := { name := "ledgerOnce", fn := fun _ => fun
  | [d1, d2] => { results := [.lit (.bool true)], args := [d1, d2] }
  | _ => none }
def ledgerOnceRow : OpenClaim := { program := "ytiopcojkdglapaa", sum := "04eca4d21d44eea3c7a1cfe66eaafd515a11442bbdbe6b390d29b46b2696163a", func := "bailey/baileylaw19.LedgerOnce", spec := "ledgerOnce", unfollowed := true, recurses := true, apart := false }
def LedgerOnceSaid : Prop := ledgerOnceRow.holds Try.pinned (OpenSpec.ofChange ledgerOnceSpec)

/-- ITS FALSE NEIGHBOUR: 'it returns false'. Refute it at one input. -/
def ledgerOnceWrong : ChangeSpec := { name := "ledgerOnce", fn := fun _ => fun
  | [d1, d2] => { results := [.lit (.bool false)], args := [d1, d2] }
  | _ => none }
def LedgerOnceWrongFalsely : Prop := ledgerOnceRow.holds Try.pinned (OpenSpec.ofChange ledgerOnceWrong)

/-- 'baileylaw19.LedgerLives': WHATEVER THE INPUT: true; the input reads as it did. -/
def ledgerLivesSpec : ChangeSpec := { name := "ledgerLives", fn := fun _ => fun
  | [d1, d2] => { results := [.lit (.bool true)], args := [d1, d2] }
  | _ => none }
def ledgerLivesRow : OpenClaim := { program := "ytiopcojkdglapaa", sum := "04eca4d21d44eea3c7a1cfe66eaafd515a11442bbdbe6b390d29b46b2696163a", func := "bailey/baileylaw19.LedgerLives", spec := "ledgerLives", unfollowed := true, recurses := true, apart := false }
def LedgerLivesSaid : Prop := ledgerLivesRow.holds Try.pinned (OpenSpec.ofChange ledgerLivesSpec)

/-- ITS FALSE NEIGHBOUR: 'it returns false'. Refute it at one input. -/
def ledgerLivesWrong : ChangeSpec := { name := "ledgerLives", fn := fun _ => fun
  | [d1, d2] => { results := [.lit (.bool false)], args := [d1, d2] }
  | _ => none }
def LedgerLivesWrongFalsely : Prop := ledgerLivesRow.holds Try.pinned (OpenSpec.ofChange ledgerLivesWrong)

/-- 'baileylaw19.LedgerBack': WHATEVER THE INPUT: true; the input reads as it did. -/
def ledgerBackSpec : ChangeSpec := { name := "ledgerBack", fn := fun _ => fun
  | [d1, d2] => { results := [.lit (.bool true)], args := [d1, d2] }
  | _ => none }
def ledgerBackRow : OpenClaim := { program := "ytiopcojkdglapaa", sum := "04eca4d21d44eea3c7a1cfe66eaafd515a11442bbdbe6b390d29b46b2696163a", func := "bailey/baileylaw19.LedgerBack", spec := "ledgerBack", unfollowed := true, recurses := true, apart := false }
def LedgerBackSaid : Prop := ledgerBackRow.holds Try.pinned (OpenSpec.ofChange ledgerBackSpec)

/-- ITS FALSE NEIGHBOUR: 'it returns false'. Refute it at one input. -/
def ledgerBackWrong : ChangeSpec := { name := "ledgerBack", fn := fun _ => fun
  | [d1, d2] => { results := [.lit (.bool false)], args := [d1, d2] }
  | _ => none }
def LedgerBackWrongFalsely : Prop := ledgerBackRow.holds Try.pinned (OpenSpec.ofChange ledgerBackWrong)

/-- 'baileylaw19.LedgerCodes': WHATEVER THE INPUT: true; the input reads as it did. -/
def ledgerCodesSpec : ChangeSpec := { name := "ledgerCodes", fn := fun _ => fun
  | [d1, d2, d3] => { results := [.lit (.bool true)], args := [d1, d2, d3] }
  | _ => none }
def ledgerCodesRow : OpenClaim := { program := "ytiopcojkdglapaa", sum := "04eca4d21d44eea3c7a1cfe66eaafd515a11442bbdbe6b390d29b46b2696163a", func := "bailey/baileylaw19.LedgerCodes", spec := "ledgerCodes", unfollowed := true, recurses := true, apart := false }
def LedgerCodesSaid : Prop := ledgerCodesRow.holds Try.pinned (OpenSpec.ofChange ledgerCodesSpec)

/-- ITS FALSE NEIGHBOUR: 'it returns false'. Refute it at one input. -/
def ledgerCodesWrong : ChangeSpec := { name := "ledgerCodes", fn := fun _ => fun
  | [d1, d2, d3] => { results := [.lit (.bool false)], args := [d1, d2, d3] }
  | _ => none }
def LedgerCodesWrongFalsely : Prop := ledgerCodesRow.holds Try.pinned (OpenSpec.ofChange ledgerCodesWrong)

/-- 'baileylaw21.RevokeCodes': WHATEVER THE INPUT: true; the input reads as it did. -/
def revokeCodesSpec : ChangeSpec := { name := "revokeCodes", fn := fun _ => fun
  | [d1, d2, d3] => { results := [.lit (.bool true)], args := [d1, d2, d3] }
  | _ => none }
def revokeCodesRow : OpenClaim := { program := "ytiopcojkdglapaa", sum := "04eca4d21d44eea3c7a1cfe66eaafd515a11442bbdbe6b390d29b46b2696163a", func := "bailey/baileylaw21.RevokeCodes", spec := "revokeCodes", unfollowed := true, recurses := true, apart := false }
def RevokeCodesSaid : Prop := revokeCodesRow.holds Try.pinned (OpenSpec.ofChange revokeCodesSpec)

/-- ITS FALSE NEIGHBOUR: 'it returns false'. Refute it at one input. -/
def revokeCodesWrong : ChangeSpec := { name := "revokeCodes", fn := fun _ => fun
  | [d1, d2, d3] => { results := [.lit (.bool false)], args := [d1, d2, d3] }
  | _ => none }
def RevokeCodesWrongFalsely : Prop := revokeCodesRow.holds Try.pinned (OpenSpec.ofChange revokeCodesWrong)

/-- 'baileylaw21.RevokeStays': WHATEVER THE INPUT: true; the input reads as it did. -/
def revokeStaysSpec : ChangeSpec := { name := "revokeStays", fn := fun _ => fun
  | [d1, d2, d3] => { results := [.lit (.bool true)], args := [d1, d2, d3] }
  | _ => none }
def revokeStaysRow : OpenClaim := { program := "ytiopcojkdglapaa", sum := "04eca4d21d44eea3c7a1cfe66eaafd515a11442bbdbe6b390d29b46b2696163a", func := "bailey/baileylaw21.RevokeStays", spec := "revokeStays", unfollowed := true, recurses := true, apart := false }
def RevokeStaysSaid : Prop := revokeStaysRow.holds Try.pinned (OpenSpec.ofChange revokeStaysSpec)

/-- ITS FALSE NEIGHBOUR: 'it returns false'. Refute it at one input. -/
def revokeStaysWrong : ChangeSpec := { name := "revokeStays", fn := fun _ => fun
  | [d1, d2, d3] => { results := [.lit (.bool false)], args := [d1, d2, d3] }
  | _ => none }
def RevokeStaysWrongFalsely : Prop := revokeStaysRow.holds Try.pinned (OpenSpec.ofChange revokeStaysWrong)

/-- 'baileylaw21.RevokeMints': WHATEVER THE INPUT: true; the input reads as it did. -/
def revokeMintsSpec : ChangeSpec := { name := "revokeMints", fn := fun _ => fun
  | [d] => { results := [.lit (.bool true)], args := [d] }
  | _ => none }
def revokeMintsRow : OpenClaim := { program := "ytiopcojkdglapaa", sum := "04eca4d21d44eea3c7a1cfe66eaafd515a11442bbdbe6b390d29b46b2696163a", func := "bailey/baileylaw21.RevokeMints", spec := "revokeMints", unfollowed := true, recurses := true, apart := false }
def RevokeMintsSaid : Prop := revokeMintsRow.holds Try.pinned (OpenSpec.ofChange revokeMintsSpec)

/-- ITS FALSE NEIGHBOUR: 'it returns false'. Refute it at one input. -/
def revokeMintsWrong : ChangeSpec := { name := "revokeMints", fn := fun _ => fun
  | [d] => { results := [.lit (.bool false)], args := [d] }
  | _ => none }
def RevokeMintsWrongFalsely : Prop := revokeMintsRow.holds Try.pinned (OpenSpec.ofChange revokeMintsWrong)

/- THE SECOND FORM. 'bulk': how many values and letters a reading holds, each counted each time it is reached (what is shared counts as often as it is met; a slice's spare places count too). A statement '..UptoSaid' is the law's where the arguments, and the package variables that the reading takes, are together of bulk at most 1048576: NARROWER than '..Said'. Prove '..Said' where nothing that the law and all that it calls make is longer than what came in: it says more and counts as full. Else prove '..UptoSaid'. A law counts once. -/
mutual
def uptoBulk {H : Type} : DataW H → Nat
  | .lit (.string bytes) => bytes.length + 1
  | .lit _ => 1
  | .nil => 1
  | .ptr d => uptoBulk d + 1
  | .slice elems spare => uptoBulkAll elems + uptoBulkAll spare + 1
  | .agg parts => uptoBulkAll parts + 1
  | .iface _ d => uptoBulk d + 1
  | .map entries => uptoBulkEntries entries + 1
  | .held _ => 1
def uptoBulkAll {H : Type} : List (DataW H) → Nat
  | [] => 0
  | d :: r => uptoBulk d + uptoBulkAll r
def uptoBulkEntries {H : Type} : List (Lit × DataW H) → Nat
  | [] => 0
  | x :: r => uptoBulkEntry x + uptoBulkEntries r
def uptoBulkEntry {H : Type} : Lit × DataW H → Nat
  | (.string bytes, d) => bytes.length + uptoBulk d + 1
  | (_, d) => uptoBulk d + 1
 end
def uptoSmall : (H : Type) → List (DataW H) → Bool := fun _ ds => decide (uptoBulkAll ds ≤ 1048576)
def OpenSpec.upto (s : _root_.Go.ChangeSpec) : _root_.Go.OpenSpec := { _root_.Go.OpenSpec.ofChange s with cond := some uptoSmall }

/-- 'baileylaw18.SpacesSets', WHERE WHAT IT READS IS OF BULK AT MOST 1048576: true; the input reads as it did. -/
def spacesSetsUptoRow : OpenClaim := { program := "ytiopcojkdglapaa", sum := "04eca4d21d44eea3c7a1cfe66eaafd515a11442bbdbe6b390d29b46b2696163a", func := "bailey/baileylaw18.SpacesSets", spec := "spacesSets", unfollowed := true, recurses := true, apart := false, narrowed := true }
def SpacesSetsUptoSaid : Prop := spacesSetsUptoRow.holds Try.pinned (OpenSpec.upto spacesSetsSpec)

/-- 'baileylaw18.SpacesMay', WHERE WHAT IT READS IS OF BULK AT MOST 1048576: true; the input reads as it did. -/
def spacesMayUptoRow : OpenClaim := { program := "ytiopcojkdglapaa", sum := "04eca4d21d44eea3c7a1cfe66eaafd515a11442bbdbe6b390d29b46b2696163a", func := "bailey/baileylaw18.SpacesMay", spec := "spacesMay", unfollowed := true, recurses := true, apart := false, narrowed := true }
def SpacesMayUptoSaid : Prop := spacesMayUptoRow.holds Try.pinned (OpenSpec.upto spacesMaySpec)

/-- 'baileylaw18.SpacesCodes', WHERE WHAT IT READS IS OF BULK AT MOST 1048576: true; the input reads as it did. -/
def spacesCodesUptoRow : OpenClaim := { program := "ytiopcojkdglapaa", sum := "04eca4d21d44eea3c7a1cfe66eaafd515a11442bbdbe6b390d29b46b2696163a", func := "bailey/baileylaw18.SpacesCodes", spec := "spacesCodes", unfollowed := true, recurses := true, apart := false, narrowed := true }
def SpacesCodesUptoSaid : Prop := spacesCodesUptoRow.holds Try.pinned (OpenSpec.upto spacesCodesSpec)

/-- 'baileylaw18.SpacesStay', WHERE WHAT IT READS IS OF BULK AT MOST 1048576: true; the input reads as it did. -/
def spacesStayUptoRow : OpenClaim := { program := "ytiopcojkdglapaa", sum := "04eca4d21d44eea3c7a1cfe66eaafd515a11442bbdbe6b390d29b46b2696163a", func := "bailey/baileylaw18.SpacesStay", spec := "spacesStay", unfollowed := true, recurses := true, apart := false, narrowed := true }
def SpacesStayUptoSaid : Prop := spacesStayUptoRow.holds Try.pinned (OpenSpec.upto spacesStaySpec)

/-- 'baileylaw19.LedgerOnce', WHERE WHAT IT READS IS OF BULK AT MOST 1048576: true; the input reads as it did. -/
def ledgerOnceUptoRow : OpenClaim := { program := "ytiopcojkdglapaa", sum := "04eca4d21d44eea3c7a1cfe66eaafd515a11442bbdbe6b390d29b46b2696163a", func := "bailey/baileylaw19.LedgerOnce", spec := "ledgerOnce", unfollowed := true, recurses := true, apart := false, narrowed := true }
def LedgerOnceUptoSaid : Prop := ledgerOnceUptoRow.holds Try.pinned (OpenSpec.upto ledgerOnceSpec)

/-- 'baileylaw19.LedgerLives', WHERE WHAT IT READS IS OF BULK AT MOST 1048576: true; the input reads as it did. -/
def ledgerLivesUptoRow : OpenClaim := { program := "ytiopcojkdglapaa", sum := "04eca4d21d44eea3c7a1cfe66eaafd515a11442bbdbe6b390d29b46b2696163a", func := "bailey/baileylaw19.LedgerLives", spec := "ledgerLives", unfollowed := true, recurses := true, apart := false, narrowed := true }
def LedgerLivesUptoSaid : Prop := ledgerLivesUptoRow.holds Try.pinned (OpenSpec.upto ledgerLivesSpec)

/-- 'baileylaw19.LedgerBack', WHERE WHAT IT READS IS OF BULK AT MOST 1048576: true; the input reads as it did. -/
def ledgerBackUptoRow : OpenClaim := { program := "ytiopcojkdglapaa", sum := "04eca4d21d44eea3c7a1cfe66eaafd515a11442bbdbe6b390d29b46b2696163a", func := "bailey/baileylaw19.LedgerBack", spec := "ledgerBack", unfollowed := true, recurses := true, apart := false, narrowed := true }
def LedgerBackUptoSaid : Prop := ledgerBackUptoRow.holds Try.pinned (OpenSpec.upto ledgerBackSpec)

/-- 'baileylaw19.LedgerCodes', WHERE WHAT IT READS IS OF BULK AT MOST 1048576: true; the input reads as it did. -/
def ledgerCodesUptoRow : OpenClaim := { program := "ytiopcojkdglapaa", sum := "04eca4d21d44eea3c7a1cfe66eaafd515a11442bbdbe6b390d29b46b2696163a", func := "bailey/baileylaw19.LedgerCodes", spec := "ledgerCodes", unfollowed := true, recurses := true, apart := false, narrowed := true }
def LedgerCodesUptoSaid : Prop := ledgerCodesUptoRow.holds Try.pinned (OpenSpec.upto ledgerCodesSpec)

/-- 'baileylaw21.RevokeCodes', WHERE WHAT IT READS IS OF BULK AT MOST 1048576: true; the input reads as it did. -/
def revokeCodesUptoRow : OpenClaim := { program := "ytiopcojkdglapaa", sum := "04eca4d21d44eea3c7a1cfe66eaafd515a11442bbdbe6b390d29b46b2696163a", func := "bailey/baileylaw21.RevokeCodes", spec := "revokeCodes", unfollowed := true, recurses := true, apart := false, narrowed := true }
def RevokeCodesUptoSaid : Prop := revokeCodesUptoRow.holds Try.pinned (OpenSpec.upto revokeCodesSpec)

/-- 'baileylaw21.RevokeStays', WHERE WHAT IT READS IS OF BULK AT MOST 1048576: true; the input reads as it did. -/
def revokeStaysUptoRow : OpenClaim := { program := "ytiopcojkdglapaa", sum := "04eca4d21d44eea3c7a1cfe66eaafd515a11442bbdbe6b390d29b46b2696163a", func := "bailey/baileylaw21.RevokeStays", spec := "revokeStays", unfollowed := true, recurses := true, apart := false, narrowed := true }
def RevokeStaysUptoSaid : Prop := revokeStaysUptoRow.holds Try.pinned (OpenSpec.upto revokeStaysSpec)

/-- 'baileylaw21.RevokeMints', WHERE WHAT IT READS IS OF BULK AT MOST 1048576: true; the input reads as it did. -/
def revokeMintsUptoRow : OpenClaim := { program := "ytiopcojkdglapaa", sum := "04eca4d21d44eea3c7a1cfe66eaafd515a11442bbdbe6b390d29b46b2696163a", func := "bailey/baileylaw21.RevokeMints", spec := "revokeMints", unfollowed := true, recurses := true, apart := false, narrowed := true }
def RevokeMintsUptoSaid : Prop := revokeMintsUptoRow.holds Try.pinned (OpenSpec.upto revokeMintsSpec)

end Rows
end Go.Proofs.Ytiopcojkdglapaa
