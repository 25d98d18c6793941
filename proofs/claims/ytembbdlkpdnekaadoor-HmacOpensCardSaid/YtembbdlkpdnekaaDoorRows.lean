/-
  NARROWER THAN 'FOR EVERY INPUT', by the rows' own cells (each row's printed sentence says how): ShaBlocks: laid · ShaSums: laid · ShaPads: laid · ShaParts: laid · ShaNobody: laid · HmacTags: laid · HmacDerives: laid · HmacEqual: laid · HmacOpens: laid · HmacPadded: laid.
  DERIVED. THE GIVEN ROWS OF THIS SEAT. 10 by the template 'for every input the law returns true; each argument reads behind the call as it read before'; 0 by the template 'total and deterministic' (their statements: YtembbdlkpdnekaaDoorTotals.lean).
  GIVEN WITH THE SEED: the statements are not yours to turn. If you find one false, say at which input.
  Laid BY PROGRAM, IN A SANDBOX (cutbox-rows.mjs): the forced cells as the released guide's own fill.sh prints them over the translation 036597f3b6f0cbd3… (all of the seat's roots in one cut). By AI agents, Wed Nov 11 2026. No macro, syntax, notation, axiom, sorry.
-/
import Derived.Test.YtembbdlkpdnekaaDoorChecked
import GoSem.Claim
import GoSem.ClaimJoined
import GoSem.ClaimMapViews
import Derived.JoinedTies
import Derived.KernelRfl
namespace Go.Proofs.YtembbdlkpdnekaaDoor
/- THE CELL 'sum', in the pinned program and in every row, IS THE sha256 OF THE DUMP (.gsa) THAT YtembbdlkpdnekaaDoorProg.lean LOADS. Nothing in Lean hashes anything: it is a label: what it is worth is what the hold of that sum in a sandbox is worth. -/
noncomputable def Tryd.pinned : Pinned := { name := "ytembbdlkpdnekaadoor", sum := "036597f3b6f0cbd3ec69a7367e70a6630da73e3541dc702c9cbd4e59239df36c", checked := Tryd.checked }
namespace Rows
def none {H : Type} : Left H := { results := [], args := [] }

/- WHAT THE LISTED PACKAGE-LEVEL VARIABLES READ AS WHEN THE CALL BEGINS. Each datum BY PROGRAM (the guide's laid-datum.mjs) off the statement by which the dump's own 'gosem.cut.vars' lays the variable. In a bare row this is a premise. The card (YtembbdlkpdnekaaDoorCards.lean) ties it to the program's text. -/
def laid_bailey_sha_constants {H : Type} : DataW H := .agg [.lit (.int .u32 1116352408), .lit (.int .u32 1899447441), .lit (.int .u32 3049323471), .lit (.int .u32 3921009573), .lit (.int .u32 961987163), .lit (.int .u32 1508970993), .lit (.int .u32 2453635748), .lit (.int .u32 2870763221), .lit (.int .u32 3624381080), .lit (.int .u32 310598401), .lit (.int .u32 607225278), .lit (.int .u32 1426881987), .lit (.int .u32 1925078388), .lit (.int .u32 2162078206), .lit (.int .u32 2614888103), .lit (.int .u32 3248222580), .lit (.int .u32 3835390401), .lit (.int .u32 4022224774), .lit (.int .u32 264347078), .lit (.int .u32 604807628), .lit (.int .u32 770255983), .lit (.int .u32 1249150122), .lit (.int .u32 1555081692), .lit (.int .u32 1996064986), .lit (.int .u32 2554220882), .lit (.int .u32 2821834349), .lit (.int .u32 2952996808), .lit (.int .u32 3210313671), .lit (.int .u32 3336571891), .lit (.int .u32 3584528711), .lit (.int .u32 113926993), .lit (.int .u32 338241895), .lit (.int .u32 666307205), .lit (.int .u32 773529912), .lit (.int .u32 1294757372), .lit (.int .u32 1396182291), .lit (.int .u32 1695183700), .lit (.int .u32 1986661051), .lit (.int .u32 2177026350), .lit (.int .u32 2456956037), .lit (.int .u32 2730485921), .lit (.int .u32 2820302411), .lit (.int .u32 3259730800), .lit (.int .u32 3345764771), .lit (.int .u32 3516065817), .lit (.int .u32 3600352804), .lit (.int .u32 4094571909), .lit (.int .u32 275423344), .lit (.int .u32 430227734), .lit (.int .u32 506948616), .lit (.int .u32 659060556), .lit (.int .u32 883997877), .lit (.int .u32 958139571), .lit (.int .u32 1322822218), .lit (.int .u32 1537002063), .lit (.int .u32 1747873779), .lit (.int .u32 1955562222), .lit (.int .u32 2024104815), .lit (.int .u32 2227730452), .lit (.int .u32 2361852424), .lit (.int .u32 2428436474), .lit (.int .u32 2756734187), .lit (.int .u32 3204031479), .lit (.int .u32 3329325298)]

/-- 'baileylaw03.ShaBlocks': WHATEVER THE INPUT: true; the input reads as it did. -/
def shaBlocksSpec : ChangeSpec := { name := "shaBlocks", fn := fun _ => fun
  | [d1, d2] => { results := [.lit (.bool true)], args := [d1, d2] }
  | _ => none }
def shaBlocksRow : OpenClaim := { program := "ytembbdlkpdnekaadoor", sum := "036597f3b6f0cbd3ec69a7367e70a6630da73e3541dc702c9cbd4e59239df36c", func := "bailey/baileylaw03.ShaBlocks", spec := "shaBlocks", named := ["bailey/sha.constants"], apart := false, laid := [("bailey/sha.constants", laid_bailey_sha_constants)] }
def ShaBlocksSaid : Prop := shaBlocksRow.holds Tryd.pinned (OpenSpec.ofChange shaBlocksSpec)

/-- ITS FALSE NEIGHBOUR: 'it returns false'. Refute it at one input. -/
def shaBlocksWrong : ChangeSpec := { name := "shaBlocks", fn := fun _ => fun
  | [d1, d2] => { results := [.lit (.bool false)], args := [d1, d2] }
  | _ => none }
def ShaBlocksWrongFalsely : Prop := shaBlocksRow.holds Tryd.pinned (OpenSpec.ofChange shaBlocksWrong)

/-- 'baileylaw03.ShaSums': WHATEVER THE INPUT: true; the input reads as it did. -/
def shaSumsSpec : ChangeSpec := { name := "shaSums", fn := fun _ => fun
  | [d1, d2] => { results := [.lit (.bool true)], args := [d1, d2] }
  | _ => none }
def shaSumsRow : OpenClaim := { program := "ytembbdlkpdnekaadoor", sum := "036597f3b6f0cbd3ec69a7367e70a6630da73e3541dc702c9cbd4e59239df36c", func := "bailey/baileylaw03.ShaSums", spec := "shaSums", named := ["bailey/sha.constants"], apart := false, laid := [("bailey/sha.constants", laid_bailey_sha_constants)] }
def ShaSumsSaid : Prop := shaSumsRow.holds Tryd.pinned (OpenSpec.ofChange shaSumsSpec)

/-- ITS FALSE NEIGHBOUR: 'it returns false'. Refute it at one input. -/
def shaSumsWrong : ChangeSpec := { name := "shaSums", fn := fun _ => fun
  | [d1, d2] => { results := [.lit (.bool false)], args := [d1, d2] }
  | _ => none }
def ShaSumsWrongFalsely : Prop := shaSumsRow.holds Tryd.pinned (OpenSpec.ofChange shaSumsWrong)

/-- 'baileylaw03.ShaPads': WHATEVER THE INPUT: true; the input reads as it did. -/
def shaPadsSpec : ChangeSpec := { name := "shaPads", fn := fun _ => fun
  | [d] => { results := [.lit (.bool true)], args := [d] }
  | _ => none }
def shaPadsRow : OpenClaim := { program := "ytembbdlkpdnekaadoor", sum := "036597f3b6f0cbd3ec69a7367e70a6630da73e3541dc702c9cbd4e59239df36c", func := "bailey/baileylaw03.ShaPads", spec := "shaPads", named := ["bailey/sha.constants"], apart := false, laid := [("bailey/sha.constants", laid_bailey_sha_constants)] }
def ShaPadsSaid : Prop := shaPadsRow.holds Tryd.pinned (OpenSpec.ofChange shaPadsSpec)

/-- ITS FALSE NEIGHBOUR: 'it returns false'. Refute it at one input. -/
def shaPadsWrong : ChangeSpec := { name := "shaPads", fn := fun _ => fun
  | [d] => { results := [.lit (.bool false)], args := [d] }
  | _ => none }
def ShaPadsWrongFalsely : Prop := shaPadsRow.holds Tryd.pinned (OpenSpec.ofChange shaPadsWrong)

/-- 'baileylaw03.ShaParts': WHATEVER THE INPUT: true; the input reads as it did. -/
def shaPartsSpec : ChangeSpec := { name := "shaParts", fn := fun _ => fun
  | [d] => { results := [.lit (.bool true)], args := [d] }
  | _ => none }
def shaPartsRow : OpenClaim := { program := "ytembbdlkpdnekaadoor", sum := "036597f3b6f0cbd3ec69a7367e70a6630da73e3541dc702c9cbd4e59239df36c", func := "bailey/baileylaw03.ShaParts", spec := "shaParts", named := ["bailey/sha.constants"], apart := false, laid := [("bailey/sha.constants", laid_bailey_sha_constants)] }
def ShaPartsSaid : Prop := shaPartsRow.holds Tryd.pinned (OpenSpec.ofChange shaPartsSpec)

/-- ITS FALSE NEIGHBOUR: 'it returns false'. Refute it at one input. -/
def shaPartsWrong : ChangeSpec := { name := "shaParts", fn := fun _ => fun
  | [d] => { results := [.lit (.bool false)], args := [d] }
  | _ => none }
def ShaPartsWrongFalsely : Prop := shaPartsRow.holds Tryd.pinned (OpenSpec.ofChange shaPartsWrong)

/-- 'baileylaw03.ShaNobody': WHATEVER THE INPUT: true; the input reads as it did. -/
def shaNobodySpec : ChangeSpec := { name := "shaNobody", fn := fun _ => fun
  | [d] => { results := [.lit (.bool true)], args := [d] }
  | _ => none }
def shaNobodyRow : OpenClaim := { program := "ytembbdlkpdnekaadoor", sum := "036597f3b6f0cbd3ec69a7367e70a6630da73e3541dc702c9cbd4e59239df36c", func := "bailey/baileylaw03.ShaNobody", spec := "shaNobody", named := ["bailey/sha.constants"], apart := false, laid := [("bailey/sha.constants", laid_bailey_sha_constants)] }
def ShaNobodySaid : Prop := shaNobodyRow.holds Tryd.pinned (OpenSpec.ofChange shaNobodySpec)

/-- ITS FALSE NEIGHBOUR: 'it returns false'. Refute it at one input. -/
def shaNobodyWrong : ChangeSpec := { name := "shaNobody", fn := fun _ => fun
  | [d] => { results := [.lit (.bool false)], args := [d] }
  | _ => none }
def ShaNobodyWrongFalsely : Prop := shaNobodyRow.holds Tryd.pinned (OpenSpec.ofChange shaNobodyWrong)

/-- 'baileylaw04.HmacTags': WHATEVER THE INPUT: true; the input reads as it did. -/
def hmacTagsSpec : ChangeSpec := { name := "hmacTags", fn := fun _ => fun
  | [d1, d2] => { results := [.lit (.bool true)], args := [d1, d2] }
  | _ => none }
def hmacTagsRow : OpenClaim := { program := "ytembbdlkpdnekaadoor", sum := "036597f3b6f0cbd3ec69a7367e70a6630da73e3541dc702c9cbd4e59239df36c", func := "bailey/baileylaw04.HmacTags", spec := "hmacTags", named := ["bailey/sha.constants"], apart := false, laid := [("bailey/sha.constants", laid_bailey_sha_constants)] }
def HmacTagsSaid : Prop := hmacTagsRow.holds Tryd.pinned (OpenSpec.ofChange hmacTagsSpec)

/-- ITS FALSE NEIGHBOUR: 'it returns false'. Refute it at one input. -/
def hmacTagsWrong : ChangeSpec := { name := "hmacTags", fn := fun _ => fun
  | [d1, d2] => { results := [.lit (.bool false)], args := [d1, d2] }
  | _ => none }
def HmacTagsWrongFalsely : Prop := hmacTagsRow.holds Tryd.pinned (OpenSpec.ofChange hmacTagsWrong)

/-- 'baileylaw04.HmacDerives': WHATEVER THE INPUT: true; the input reads as it did. -/
def hmacDerivesSpec : ChangeSpec := { name := "hmacDerives", fn := fun _ => fun
  | [d1, d2, d3] => { results := [.lit (.bool true)], args := [d1, d2, d3] }
  | _ => none }
def hmacDerivesRow : OpenClaim := { program := "ytembbdlkpdnekaadoor", sum := "036597f3b6f0cbd3ec69a7367e70a6630da73e3541dc702c9cbd4e59239df36c", func := "bailey/baileylaw04.HmacDerives", spec := "hmacDerives", named := ["bailey/sha.constants"], apart := false, laid := [("bailey/sha.constants", laid_bailey_sha_constants)] }
def HmacDerivesSaid : Prop := hmacDerivesRow.holds Tryd.pinned (OpenSpec.ofChange hmacDerivesSpec)

/-- ITS FALSE NEIGHBOUR: 'it returns false'. Refute it at one input. -/
def hmacDerivesWrong : ChangeSpec := { name := "hmacDerives", fn := fun _ => fun
  | [d1, d2, d3] => { results := [.lit (.bool false)], args := [d1, d2, d3] }
  | _ => none }
def HmacDerivesWrongFalsely : Prop := hmacDerivesRow.holds Tryd.pinned (OpenSpec.ofChange hmacDerivesWrong)

/-- 'baileylaw04.HmacEqual': WHATEVER THE INPUT: true; the input reads as it did. -/
def hmacEqualSpec : ChangeSpec := { name := "hmacEqual", fn := fun _ => fun
  | [d1, d2, d3, d4] => { results := [.lit (.bool true)], args := [d1, d2, d3, d4] }
  | _ => none }
def hmacEqualRow : OpenClaim := { program := "ytembbdlkpdnekaadoor", sum := "036597f3b6f0cbd3ec69a7367e70a6630da73e3541dc702c9cbd4e59239df36c", func := "bailey/baileylaw04.HmacEqual", spec := "hmacEqual", named := ["bailey/sha.constants"], apart := false, laid := [("bailey/sha.constants", laid_bailey_sha_constants)] }
def HmacEqualSaid : Prop := hmacEqualRow.holds Tryd.pinned (OpenSpec.ofChange hmacEqualSpec)

/-- ITS FALSE NEIGHBOUR: 'it returns false'. Refute it at one input. -/
def hmacEqualWrong : ChangeSpec := { name := "hmacEqual", fn := fun _ => fun
  | [d1, d2, d3, d4] => { results := [.lit (.bool false)], args := [d1, d2, d3, d4] }
  | _ => none }
def HmacEqualWrongFalsely : Prop := hmacEqualRow.holds Tryd.pinned (OpenSpec.ofChange hmacEqualWrong)

/-- 'baileylaw04.HmacOpens': WHATEVER THE INPUT: true; the input reads as it did. -/
def hmacOpensSpec : ChangeSpec := { name := "hmacOpens", fn := fun _ => fun
  | [d1, d2, d3] => { results := [.lit (.bool true)], args := [d1, d2, d3] }
  | _ => none }
def hmacOpensRow : OpenClaim := { program := "ytembbdlkpdnekaadoor", sum := "036597f3b6f0cbd3ec69a7367e70a6630da73e3541dc702c9cbd4e59239df36c", func := "bailey/baileylaw04.HmacOpens", spec := "hmacOpens", named := ["bailey/sha.constants"], apart := false, laid := [("bailey/sha.constants", laid_bailey_sha_constants)] }
def HmacOpensSaid : Prop := hmacOpensRow.holds Tryd.pinned (OpenSpec.ofChange hmacOpensSpec)

/-- ITS FALSE NEIGHBOUR: 'it returns false'. Refute it at one input. -/
def hmacOpensWrong : ChangeSpec := { name := "hmacOpens", fn := fun _ => fun
  | [d1, d2, d3] => { results := [.lit (.bool false)], args := [d1, d2, d3] }
  | _ => none }
def HmacOpensWrongFalsely : Prop := hmacOpensRow.holds Tryd.pinned (OpenSpec.ofChange hmacOpensWrong)

/-- 'baileylaw04.HmacPadded': WHATEVER THE INPUT: true; the input reads as it did. -/
def hmacPaddedSpec : ChangeSpec := { name := "hmacPadded", fn := fun _ => fun
  | [d1, d2, d3] => { results := [.lit (.bool true)], args := [d1, d2, d3] }
  | _ => none }
def hmacPaddedRow : OpenClaim := { program := "ytembbdlkpdnekaadoor", sum := "036597f3b6f0cbd3ec69a7367e70a6630da73e3541dc702c9cbd4e59239df36c", func := "bailey/baileylaw04.HmacPadded", spec := "hmacPadded", named := ["bailey/sha.constants"], apart := false, laid := [("bailey/sha.constants", laid_bailey_sha_constants)] }
def HmacPaddedSaid : Prop := hmacPaddedRow.holds Tryd.pinned (OpenSpec.ofChange hmacPaddedSpec)

/-- ITS FALSE NEIGHBOUR: 'it returns false'. Refute it at one input. -/
def hmacPaddedWrong : ChangeSpec := { name := "hmacPadded", fn := fun _ => fun
  | [d1, d2, d3] => { results := [.lit (.bool false)], args := [d1, d2, d3] }
  | _ => none }
def HmacPaddedWrongFalsely : Prop := hmacPaddedRow.holds Tryd.pinned (OpenSpec.ofChange hmacPaddedWrong)

/- THE SECOND FORM. 'bulk': how many values and letters a reading holds, each counted each time it is reached (what is shared counts as often as it is met; a slice's spare places count too). A statement '..UptoSaid' is the law's where the arguments, and the package variables that the reading takes, are together of bulk at most 1048576: NARROWER than '..Said'. Prove '..Said' where nothing that the law and all that it calls make is longer than what came in: it says more and counts as full. Else prove '..UptoSaid'. A law counts once. -/
mutual
def uptoBulk {H : Type} : DataW H → Nat
  | .lit (.string bytes) => bytes.length + 1
  | .lit _ => 1
  | .nil => 1
  | .ptr d => uptoBulk d + 1
  | .slice elems spare => uptoBulkAll elems + uptoBulkAll spare + 1
  | .agg parts => uptoBulkAll parts + 1
  | .iface _ d => uptoBulk d + 1
  | .map entries => uptoBulkEntries entries + 1
  | .held _ => 1
def uptoBulkAll {H : Type} : List (DataW H) → Nat
  | [] => 0
  | d :: r => uptoBulk d + uptoBulkAll r
def uptoBulkEntries {H : Type} : List (Lit × DataW H) → Nat
  | [] => 0
  | x :: r => uptoBulkEntry x + uptoBulkEntries r
def uptoBulkEntry {H : Type} : Lit × DataW H → Nat
  | (.string bytes, d) => bytes.length + uptoBulk d + 1
  | (_, d) => uptoBulk d + 1
 end
def uptoSmall : (H : Type) → List (DataW H) → Bool := fun _ ds => decide (uptoBulkAll ds ≤ 1048576)
def OpenSpec.upto (s : _root_.Go.ChangeSpec) : _root_.Go.OpenSpec := { _root_.Go.OpenSpec.ofChange s with cond := some uptoSmall }

/-- 'baileylaw03.ShaBlocks', WHERE WHAT IT READS IS OF BULK AT MOST 1048576: true; the input reads as it did. -/
def shaBlocksUptoRow : OpenClaim := { program := "ytembbdlkpdnekaadoor", sum := "036597f3b6f0cbd3ec69a7367e70a6630da73e3541dc702c9cbd4e59239df36c", func := "bailey/baileylaw03.ShaBlocks", spec := "shaBlocks", named := ["bailey/sha.constants"], apart := false, laid := [("bailey/sha.constants", laid_bailey_sha_constants)], narrowed := true }
def ShaBlocksUptoSaid : Prop := shaBlocksUptoRow.holds Tryd.pinned (OpenSpec.upto shaBlocksSpec)

/-- 'baileylaw03.ShaSums', WHERE WHAT IT READS IS OF BULK AT MOST 1048576: true; the input reads as it did. -/
def shaSumsUptoRow : OpenClaim := { program := "ytembbdlkpdnekaadoor", sum := "036597f3b6f0cbd3ec69a7367e70a6630da73e3541dc702c9cbd4e59239df36c", func := "bailey/baileylaw03.ShaSums", spec := "shaSums", named := ["bailey/sha.constants"], apart := false, laid := [("bailey/sha.constants", laid_bailey_sha_constants)], narrowed := true }
def ShaSumsUptoSaid : Prop := shaSumsUptoRow.holds Tryd.pinned (OpenSpec.upto shaSumsSpec)

/-- 'baileylaw03.ShaPads', WHERE WHAT IT READS IS OF BULK AT MOST 1048576: true; the input reads as it did. -/
def shaPadsUptoRow : OpenClaim := { program := "ytembbdlkpdnekaadoor", sum := "036597f3b6f0cbd3ec69a7367e70a6630da73e3541dc702c9cbd4e59239df36c", func := "bailey/baileylaw03.ShaPads", spec := "shaPads", named := ["bailey/sha.constants"], apart := false, laid := [("bailey/sha.constants", laid_bailey_sha_constants)], narrowed := true }
def ShaPadsUptoSaid : Prop := shaPadsUptoRow.holds Tryd.pinned (OpenSpec.upto shaPadsSpec)

/-- 'baileylaw03.ShaParts', WHERE WHAT IT READS IS OF BULK AT MOST 1048576: true; the input reads as it did. -/
def shaPartsUptoRow : OpenClaim := { program := "ytembbdlkpdnekaadoor", sum := "036597f3b6f0cbd3ec69a7367e70a6630da73e3541dc702c9cbd4e59239df36c", func := "bailey/baileylaw03.ShaParts", spec := "shaParts", named := ["bailey/sha.constants"], apart := false, laid := [("bailey/sha.constants", laid_bailey_sha_constants)], narrowed := true }
def ShaPartsUptoSaid : Prop := shaPartsUptoRow.holds Tryd.pinned (OpenSpec.upto shaPartsSpec)

/-- 'baileylaw03.ShaNobody', WHERE WHAT IT READS IS OF BULK AT MOST 1048576: true; the input reads as it did. -/
def shaNobodyUptoRow : OpenClaim := { program := "ytembbdlkpdnekaadoor", sum := "036597f3b6f0cbd3ec69a7367e70a6630da73e3541dc702c9cbd4e59239df36c", func := "bailey/baileylaw03.ShaNobody", spec := "shaNobody", named := ["bailey/sha.constants"], apart := false, laid := [("bailey/sha.constants", laid_bailey_sha_constants)], narrowed := true }
def ShaNobodyUptoSaid : Prop := shaNobodyUptoRow.holds Tryd.pinned (OpenSpec.upto shaNobodySpec)

/-- 'baileylaw04.HmacTags', WHERE WHAT IT READS IS OF BULK AT MOST 1048576: true; the input reads as it did. -/
def hmacTagsUptoRow : OpenClaim := { program := "ytembbdlkpdnekaadoor", sum := "036597f3b6f0cbd3ec69a7367e70a6630da73e3541dc702c9cbd4e59239df36c", func := "bailey/baileylaw04.HmacTags", spec := "hmacTags", named := ["bailey/sha.constants"], apart := false, laid := [("bailey/sha.constants", laid_bailey_sha_constants)], narrowed := true }
def HmacTagsUptoSaid : Prop := hmacTagsUptoRow.holds Tryd.pinned (OpenSpec.upto hmacTagsSpec)

/-- 'baileylaw04.HmacDerives', WHERE WHAT IT READS IS OF BULK AT MOST 1048576: true; the input reads as it did. -/
def hmacDerivesUptoRow : OpenClaim := { program := "ytembbdlkpdnekaadoor", sum := "036597f3b6f0cbd3ec69a7367e70a6630da73e3541dc702c9cbd4e59239df36c", func := "bailey/baileylaw04.HmacDerives", spec := "hmacDerives", named := ["bailey/sha.constants"], apart := false, laid := [("bailey/sha.constants", laid_bailey_sha_constants)], narrowed := true }
def HmacDerivesUptoSaid : Prop := hmacDerivesUptoRow.holds Tryd.pinned (OpenSpec.upto hmacDerivesSpec)

/-- 'baileylaw04.HmacEqual', WHERE WHAT IT READS IS OF BULK AT MOST 1048576: true; the input reads as it did. -/
def hmacEqualUptoRow : OpenClaim := { program := "ytembbdlkpdnekaadoor", sum := "036597f3b6f0cbd3ec69a7367e70a6630da73e3541dc702c9cbd4e59239df36c", func := "bailey/baileylaw04.HmacEqual", spec := "hmacEqual", named := ["bailey/sha.constants"], apart := false, laid := [("bailey/sha.constants", laid_bailey_sha_constants)], narrowed := true }
def HmacEqualUptoSaid : Prop := hmacEqualUptoRow.holds Tryd.pinned (OpenSpec.upto hmacEqualSpec)

/-- 'baileylaw04.HmacOpens', WHERE WHAT IT READS IS OF BULK AT MOST 1048576: true; the input reads as it did. -/
def hmacOpensUptoRow : OpenClaim := { program := "ytembbdlkpdnekaadoor", sum := "036597f3b6f0cbd3ec69a7367e70a6630da73e3541dc702c9cbd4e59239df36c", func := "bailey/baileylaw04.HmacOpens", spec := "hmacOpens", named := ["bailey/sha.constants"], apart := false, laid := [("bailey/sha.constants", laid_bailey_sha_constants)], narrowed := true }
def HmacOpensUptoSaid : Prop := hmacOpensUptoRow.holds Tryd.pinned (OpenSpec.upto hmacOpensSpec)

/-- 'baileylaw04.HmacPadded', WHERE WHAT IT READS IS OF BULK AT MOST 1048576: true; the input reads as it did. -/
def hmacPaddedUptoRow : OpenClaim := { program := "ytembbdlkpdnekaadoor", sum := "036597f3b6f0cbd3ec69a7367e70a6630da73e3541dc702c9cbd4e59239df36c", func := "bailey/baileylaw04.HmacPadded", spec := "hmacPadded", named := ["bailey/sha.constants"], apart := false, laid := [("bailey/sha.constants", laid_bailey_sha_constants)], narrowed := true }
def HmacPaddedUptoSaid : Prop := hmacPaddedUptoRow.holds Tryd.pinned (OpenSpec.upto hmacPaddedSpec)

end Rows
end Go.Proofs.YtembbdlkpdnekaaDoor
