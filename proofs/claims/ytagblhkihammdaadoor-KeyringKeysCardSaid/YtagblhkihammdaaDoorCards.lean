/-
  DERIVED. GIVEN WITH THE SEED: THE CARDS: each row of YtagblhkihammdaaDoorRows.lean that lists a variable, with what it lists TIED to the program's text (the seventh form; the later family's looks); each row that meets fmt, with fmt's text TOLD by the authors' own Lean function (tested against real Go, not proved from fmt's source: count such statements apart). THE CARD IS WHAT COUNTS. Prove the row's statement (the work); the ties are given (YtagblhkihammdaaDoorTie.lean); close each card by the builder's one call (the guide's Derived/Test/ToyasCard.lean, 'card_holds'). Laid BY PROGRAM, IN A SANDBOX (cutbox-door.mjs). By AI agents, Wed Nov 11 2026. No macro, syntax, notation, axiom, sorry.
-/
import Derived.Test.YtagblhkihammdaaDoorRows
import GoSem.ClaimSeven
namespace Go.Proofs.YtagblhkihammdaaDoor
namespace Rows

/-- THE TIED CARD OF 'baileylaw04.HmacDerives'. -/
def hmacDerivesCard : Claim7 := { stood := { row := hmacDerivesRow, standIns := [], harness := (true, "1c7975f1f65b0712fb7e015108173b0e4cc3e7b6b79e83efd287768fb44a1645"), looks := false }, kinds := [], alts := [], laidByText := true, laidKinds := [.data], laidTests := true, laidLooks := .later }
def HmacDerivesCardSaid : Prop := Claim7.holds Tryd.pinned (.plain (OpenSpec.ofChange hmacDerivesSpec)) hmacDerivesCard

/-- THE TIED CARD OF 'baileylaw07.KeyringKeys'. -/
def keyringKeysCard : Claim7 := { stood := { row := keyringKeysRow, standIns := [], harness := (true, "1c7975f1f65b0712fb7e015108173b0e4cc3e7b6b79e83efd287768fb44a1645"), looks := false }, kinds := [], alts := [], laidByText := true, laidKinds := [.data], laidTests := true, laidLooks := .later }
def KeyringKeysCardSaid : Prop := Claim7.holds Tryd.pinned (.plain (OpenSpec.ofChange keyringKeysSpec)) keyringKeysCard

/-- THE TIED CARD OF 'baileylaw07.KeyringTexts'. -/
def keyringTextsCard : Claim7 := { stood := { row := keyringTextsRow, standIns := [], harness := (true, "1c7975f1f65b0712fb7e015108173b0e4cc3e7b6b79e83efd287768fb44a1645"), looks := false }, kinds := [], alts := [], laidByText := true, laidKinds := [.data], laidTests := true, laidLooks := .later }
def KeyringTextsCardSaid : Prop := Claim7.holds Tryd.pinned (.plain (OpenSpec.ofChange keyringTextsSpec)) keyringTextsCard

/-- THE TIED CARD OF 'baileylaw07.KeyringCounts'. -/
def keyringCountsCard : Claim7 := { stood := { row := keyringCountsRow, standIns := [], harness := (true, "1c7975f1f65b0712fb7e015108173b0e4cc3e7b6b79e83efd287768fb44a1645"), looks := false }, kinds := [], alts := [], laidByText := true, laidKinds := [.data], laidTests := true, laidLooks := .later }
def KeyringCountsCardSaid : Prop := Claim7.holds Tryd.pinned (.plain (OpenSpec.ofChange keyringCountsSpec)) keyringCountsCard

/-- THE TIED CARD OF 'baileylaw07.KeyringNobody'. -/
def keyringNobodyCard : Claim7 := { stood := { row := keyringNobodyRow, standIns := [], harness := (true, "1c7975f1f65b0712fb7e015108173b0e4cc3e7b6b79e83efd287768fb44a1645"), looks := false }, kinds := [], alts := [], laidByText := true, laidKinds := [.data], laidTests := true, laidLooks := .later }
def KeyringNobodyCardSaid : Prop := Claim7.holds Tryd.pinned (.plain (OpenSpec.ofChange keyringNobodySpec)) keyringNobodyCard

/-- THE TIED CARD OF 'baileylaw08.TokenMints'. -/
def tokenMintsCard : Claim7 := { stood := { row := tokenMintsRow, standIns := [], harness := (true, "1c7975f1f65b0712fb7e015108173b0e4cc3e7b6b79e83efd287768fb44a1645"), looks := false }, kinds := [], alts := [], laidByText := true, laidKinds := [.data], laidTests := true, laidLooks := .later }
def TokenMintsCardSaid : Prop := Claim7.holds Tryd.pinned (.plain (OpenSpec.ofChange tokenMintsSpec)) tokenMintsCard

/-- THE TIED CARD OF 'baileylaw08.TokenOpens'. -/
def tokenOpensCard : Claim7 := { stood := { row := tokenOpensRow, standIns := [], harness := (true, "1c7975f1f65b0712fb7e015108173b0e4cc3e7b6b79e83efd287768fb44a1645"), looks := false }, kinds := [], alts := [], laidByText := true, laidKinds := [.data], laidTests := true, laidLooks := .later }
def TokenOpensCardSaid : Prop := Claim7.holds Tryd.pinned (.plain (OpenSpec.ofChange tokenOpensSpec)) tokenOpensCard

/-- THE TIED CARD OF 'baileylaw08.TokenCodes'. -/
def tokenCodesCard : Claim7 := { stood := { row := tokenCodesRow, standIns := [], harness := (true, "1c7975f1f65b0712fb7e015108173b0e4cc3e7b6b79e83efd287768fb44a1645"), looks := false }, kinds := [], alts := [], laidByText := true, laidKinds := [.data], laidTests := true, laidLooks := .later }
def TokenCodesCardSaid : Prop := Claim7.holds Tryd.pinned (.plain (OpenSpec.ofChange tokenCodesSpec)) tokenCodesCard

/-- THE TIED CARD OF 'baileylaw08.TokenHolds'. -/
def tokenHoldsCard : Claim7 := { stood := { row := tokenHoldsRow, standIns := [], harness := (true, "1c7975f1f65b0712fb7e015108173b0e4cc3e7b6b79e83efd287768fb44a1645"), looks := false }, kinds := [], alts := [], laidByText := true, laidKinds := [.data], laidTests := true, laidLooks := .later }
def TokenHoldsCardSaid : Prop := Claim7.holds Tryd.pinned (.plain (OpenSpec.ofChange tokenHoldsSpec)) tokenHoldsCard

/-- THE TIED CARD OF 'baileylaw08.TokenTag'. -/
def tokenTagCard : Claim7 := { stood := { row := tokenTagRow, standIns := [], harness := (true, "1c7975f1f65b0712fb7e015108173b0e4cc3e7b6b79e83efd287768fb44a1645"), looks := false }, kinds := [], alts := [], laidByText := true, laidKinds := [.data], laidTests := true, laidLooks := .later }
def TokenTagCardSaid : Prop := Claim7.holds Tryd.pinned (.plain (OpenSpec.ofChange tokenTagSpec)) tokenTagCard

/-- THE SECOND FORM's CARD OF 'baileylaw04.HmacDerives'. -/
def hmacDerivesUptoCard : Claim7 := { stood := { row := hmacDerivesUptoRow, standIns := [], harness := (true, "1c7975f1f65b0712fb7e015108173b0e4cc3e7b6b79e83efd287768fb44a1645"), looks := false }, kinds := [], alts := [], laidByText := true, laidKinds := [.data], laidTests := true, laidLooks := .later }
def HmacDerivesUptoCardSaid : Prop := Claim7.holds Tryd.pinned (.plain (OpenSpec.upto hmacDerivesSpec)) hmacDerivesUptoCard

/-- THE SECOND FORM's CARD OF 'baileylaw07.KeyringKeys'. -/
def keyringKeysUptoCard : Claim7 := { stood := { row := keyringKeysUptoRow, standIns := [], harness := (true, "1c7975f1f65b0712fb7e015108173b0e4cc3e7b6b79e83efd287768fb44a1645"), looks := false }, kinds := [], alts := [], laidByText := true, laidKinds := [.data], laidTests := true, laidLooks := .later }
def KeyringKeysUptoCardSaid : Prop := Claim7.holds Tryd.pinned (.plain (OpenSpec.upto keyringKeysSpec)) keyringKeysUptoCard

/-- THE SECOND FORM's CARD OF 'baileylaw07.KeyringTexts'. -/
def keyringTextsUptoCard : Claim7 := { stood := { row := keyringTextsUptoRow, standIns := [], harness := (true, "1c7975f1f65b0712fb7e015108173b0e4cc3e7b6b79e83efd287768fb44a1645"), looks := false }, kinds := [], alts := [], laidByText := true, laidKinds := [.data], laidTests := true, laidLooks := .later }
def KeyringTextsUptoCardSaid : Prop := Claim7.holds Tryd.pinned (.plain (OpenSpec.upto keyringTextsSpec)) keyringTextsUptoCard

/-- THE SECOND FORM's CARD OF 'baileylaw07.KeyringCounts'. -/
def keyringCountsUptoCard : Claim7 := { stood := { row := keyringCountsUptoRow, standIns := [], harness := (true, "1c7975f1f65b0712fb7e015108173b0e4cc3e7b6b79e83efd287768fb44a1645"), looks := false }, kinds := [], alts := [], laidByText := true, laidKinds := [.data], laidTests := true, laidLooks := .later }
def KeyringCountsUptoCardSaid : Prop := Claim7.holds Tryd.pinned (.plain (OpenSpec.upto keyringCountsSpec)) keyringCountsUptoCard

/-- THE SECOND FORM's CARD OF 'baileylaw07.KeyringNobody'. -/
def keyringNobodyUptoCard : Claim7 := { stood := { row := keyringNobodyUptoRow, standIns := [], harness := (true, "1c7975f1f65b0712fb7e015108173b0e4cc3e7b6b79e83efd287768fb44a1645"), looks := false }, kinds := [], alts := [], laidByText := true, laidKinds := [.data], laidTests := true, laidLooks := .later }
def KeyringNobodyUptoCardSaid : Prop := Claim7.holds Tryd.pinned (.plain (OpenSpec.upto keyringNobodySpec)) keyringNobodyUptoCard

/-- THE SECOND FORM's CARD OF 'baileylaw08.TokenMints'. -/
def tokenMintsUptoCard : Claim7 := { stood := { row := tokenMintsUptoRow, standIns := [], harness := (true, "1c7975f1f65b0712fb7e015108173b0e4cc3e7b6b79e83efd287768fb44a1645"), looks := false }, kinds := [], alts := [], laidByText := true, laidKinds := [.data], laidTests := true, laidLooks := .later }
def TokenMintsUptoCardSaid : Prop := Claim7.holds Tryd.pinned (.plain (OpenSpec.upto tokenMintsSpec)) tokenMintsUptoCard

/-- THE SECOND FORM's CARD OF 'baileylaw08.TokenOpens'. -/
def tokenOpensUptoCard : Claim7 := { stood := { row := tokenOpensUptoRow, standIns := [], harness := (true, "1c7975f1f65b0712fb7e015108173b0e4cc3e7b6b79e83efd287768fb44a1645"), looks := false }, kinds := [], alts := [], laidByText := true, laidKinds := [.data], laidTests := true, laidLooks := .later }
def TokenOpensUptoCardSaid : Prop := Claim7.holds Tryd.pinned (.plain (OpenSpec.upto tokenOpensSpec)) tokenOpensUptoCard

/-- THE SECOND FORM's CARD OF 'baileylaw08.TokenCodes'. -/
def tokenCodesUptoCard : Claim7 := { stood := { row := tokenCodesUptoRow, standIns := [], harness := (true, "1c7975f1f65b0712fb7e015108173b0e4cc3e7b6b79e83efd287768fb44a1645"), looks := false }, kinds := [], alts := [], laidByText := true, laidKinds := [.data], laidTests := true, laidLooks := .later }
def TokenCodesUptoCardSaid : Prop := Claim7.holds Tryd.pinned (.plain (OpenSpec.upto tokenCodesSpec)) tokenCodesUptoCard

/-- THE SECOND FORM's CARD OF 'baileylaw08.TokenHolds'. -/
def tokenHoldsUptoCard : Claim7 := { stood := { row := tokenHoldsUptoRow, standIns := [], harness := (true, "1c7975f1f65b0712fb7e015108173b0e4cc3e7b6b79e83efd287768fb44a1645"), looks := false }, kinds := [], alts := [], laidByText := true, laidKinds := [.data], laidTests := true, laidLooks := .later }
def TokenHoldsUptoCardSaid : Prop := Claim7.holds Tryd.pinned (.plain (OpenSpec.upto tokenHoldsSpec)) tokenHoldsUptoCard

/-- THE SECOND FORM's CARD OF 'baileylaw08.TokenTag'. -/
def tokenTagUptoCard : Claim7 := { stood := { row := tokenTagUptoRow, standIns := [], harness := (true, "1c7975f1f65b0712fb7e015108173b0e4cc3e7b6b79e83efd287768fb44a1645"), looks := false }, kinds := [], alts := [], laidByText := true, laidKinds := [.data], laidTests := true, laidLooks := .later }
def TokenTagUptoCardSaid : Prop := Claim7.holds Tryd.pinned (.plain (OpenSpec.upto tokenTagSpec)) tokenTagUptoCard
end Rows
end Go.Proofs.YtagblhkihammdaaDoor
