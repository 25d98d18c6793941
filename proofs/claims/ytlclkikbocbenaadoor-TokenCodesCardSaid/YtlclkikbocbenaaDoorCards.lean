/-
  DERIVED. GIVEN WITH THE SEED: THE CARDS: each row of YtlclkikbocbenaaDoorRows.lean that lists a variable, with what it lists TIED to the program's text (the seventh form; the later family's looks); each row that meets fmt, with fmt's text TOLD by the authors' own Lean function (tested against real Go, not proved from fmt's source: count such statements apart). THE CARD IS WHAT COUNTS. Prove the row's statement (the work); the ties are given (YtlclkikbocbenaaDoorTie.lean); close each card by the builder's one call (the guide's Derived/Test/ToyasCard.lean, 'card_holds'). Laid BY PROGRAM, IN A SANDBOX (cutbox-door.mjs). By AI agents, Wed Nov 11 2026. No macro, syntax, notation, axiom, sorry.
-/
import Derived.Test.YtlclkikbocbenaaDoorRows
import GoSem.ClaimSeven
namespace Go.Proofs.YtlclkikbocbenaaDoor
namespace Rows

/-- THE TIED CARD OF 'baileylaw08.TokenMints'. -/
def tokenMintsCard : Claim7 := { stood := { row := tokenMintsRow, standIns := [], harness := (true, "2075fe8264591122a52246246f95cb61005ee4353927771cc5e81b449d97575d"), looks := false }, kinds := [], alts := [], laidByText := true, laidKinds := [.data], laidTests := true, laidLooks := .later }
def TokenMintsCardSaid : Prop := Claim7.holds Tryd.pinned (.plain (OpenSpec.ofChange tokenMintsSpec)) tokenMintsCard

/-- THE TIED CARD OF 'baileylaw08.TokenOpens'. -/
def tokenOpensCard : Claim7 := { stood := { row := tokenOpensRow, standIns := [], harness := (true, "2075fe8264591122a52246246f95cb61005ee4353927771cc5e81b449d97575d"), looks := false }, kinds := [], alts := [], laidByText := true, laidKinds := [.data], laidTests := true, laidLooks := .later }
def TokenOpensCardSaid : Prop := Claim7.holds Tryd.pinned (.plain (OpenSpec.ofChange tokenOpensSpec)) tokenOpensCard

/-- THE TIED CARD OF 'baileylaw08.TokenCodes'. -/
def tokenCodesCard : Claim7 := { stood := { row := tokenCodesRow, standIns := [], harness := (true, "2075fe8264591122a52246246f95cb61005ee4353927771cc5e81b449d97575d"), looks := false }, kinds := [], alts := [], laidByText := true, laidKinds := [.data], laidTests := true, laidLooks := .later }
def TokenCodesCardSaid : Prop := Claim7.holds Tryd.pinned (.plain (OpenSpec.ofChange tokenCodesSpec)) tokenCodesCard

/-- THE TIED CARD OF 'baileylaw08.TokenHolds'. -/
def tokenHoldsCard : Claim7 := { stood := { row := tokenHoldsRow, standIns := [], harness := (true, "2075fe8264591122a52246246f95cb61005ee4353927771cc5e81b449d97575d"), looks := false }, kinds := [], alts := [], laidByText := true, laidKinds := [.data], laidTests := true, laidLooks := .later }
def TokenHoldsCardSaid : Prop := Claim7.holds Tryd.pinned (.plain (OpenSpec.ofChange tokenHoldsSpec)) tokenHoldsCard

/-- THE TIED CARD OF 'baileylaw08.TokenTag'. -/
def tokenTagCard : Claim7 := { stood := { row := tokenTagRow, standIns := [], harness := (true, "2075fe8264591122a52246246f95cb61005ee4353927771cc5e81b449d97575d"), looks := false }, kinds := [], alts := [], laidByText := true, laidKinds := [.data], laidTests := true, laidLooks := .later }
def TokenTagCardSaid : Prop := Claim7.holds Tryd.pinned (.plain (OpenSpec.ofChange tokenTagSpec)) tokenTagCard

/-- THE SECOND FORM's CARD OF 'baileylaw08.TokenMints'. -/
def tokenMintsUptoCard : Claim7 := { stood := { row := tokenMintsUptoRow, standIns := [], harness := (true, "2075fe8264591122a52246246f95cb61005ee4353927771cc5e81b449d97575d"), looks := false }, kinds := [], alts := [], laidByText := true, laidKinds := [.data], laidTests := true, laidLooks := .later }
def TokenMintsUptoCardSaid : Prop := Claim7.holds Tryd.pinned (.plain (OpenSpec.upto tokenMintsSpec)) tokenMintsUptoCard

/-- THE SECOND FORM's CARD OF 'baileylaw08.TokenOpens'. -/
def tokenOpensUptoCard : Claim7 := { stood := { row := tokenOpensUptoRow, standIns := [], harness := (true, "2075fe8264591122a52246246f95cb61005ee4353927771cc5e81b449d97575d"), looks := false }, kinds := [], alts := [], laidByText := true, laidKinds := [.data], laidTests := true, laidLooks := .later }
def TokenOpensUptoCardSaid : Prop := Claim7.holds Tryd.pinned (.plain (OpenSpec.upto tokenOpensSpec)) tokenOpensUptoCard

/-- THE SECOND FORM's CARD OF 'baileylaw08.TokenCodes'. -/
def tokenCodesUptoCard : Claim7 := { stood := { row := tokenCodesUptoRow, standIns := [], harness := (true, "2075fe8264591122a52246246f95cb61005ee4353927771cc5e81b449d97575d"), looks := false }, kinds := [], alts := [], laidByText := true, laidKinds := [.data], laidTests := true, laidLooks := .later }
def TokenCodesUptoCardSaid : Prop := Claim7.holds Tryd.pinned (.plain (OpenSpec.upto tokenCodesSpec)) tokenCodesUptoCard

/-- THE SECOND FORM's CARD OF 'baileylaw08.TokenHolds'. -/
def tokenHoldsUptoCard : Claim7 := { stood := { row := tokenHoldsUptoRow, standIns := [], harness := (true, "2075fe8264591122a52246246f95cb61005ee4353927771cc5e81b449d97575d"), looks := false }, kinds := [], alts := [], laidByText := true, laidKinds := [.data], laidTests := true, laidLooks := .later }
def TokenHoldsUptoCardSaid : Prop := Claim7.holds Tryd.pinned (.plain (OpenSpec.upto tokenHoldsSpec)) tokenHoldsUptoCard

/-- THE SECOND FORM's CARD OF 'baileylaw08.TokenTag'. -/
def tokenTagUptoCard : Claim7 := { stood := { row := tokenTagUptoRow, standIns := [], harness := (true, "2075fe8264591122a52246246f95cb61005ee4353927771cc5e81b449d97575d"), looks := false }, kinds := [], alts := [], laidByText := true, laidKinds := [.data], laidTests := true, laidLooks := .later }
def TokenTagUptoCardSaid : Prop := Claim7.holds Tryd.pinned (.plain (OpenSpec.upto tokenTagSpec)) tokenTagUptoCard
end Rows
end Go.Proofs.YtlclkikbocbenaaDoor
