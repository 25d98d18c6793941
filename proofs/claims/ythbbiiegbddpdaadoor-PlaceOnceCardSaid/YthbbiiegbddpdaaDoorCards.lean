/-
  DERIVED. GIVEN WITH THE SEED: THE CARDS: each row of YthbbiiegbddpdaaDoorRows.lean that lists a variable, with what it lists TIED to the program's text (the seventh form; the later family's looks); each row that meets fmt, with fmt's text TOLD by the authors' own Lean function (tested against real Go, not proved from fmt's source: count such statements apart). THE CARD IS WHAT COUNTS. Prove the row's statement (the work); the ties are given (YthbbiiegbddpdaaDoorTie.lean); close each card by the builder's one call (the guide's Derived/Test/ToyasCard.lean, 'card_holds'). Laid BY PROGRAM, IN A SANDBOX (cutbox-door.mjs). By AI agents, Wed Nov 11 2026. No macro, syntax, notation, axiom, sorry.
-/
import Derived.Test.YthbbiiegbddpdaaDoorRows
import GoSem.ClaimSeven
namespace Go.Proofs.YthbbiiegbddpdaaDoor
namespace Rows

/-- THE TIED CARD OF 'baileylaw29.PlaceOrders'. -/
def placeOrdersCard : Claim7 := { stood := { row := placeOrdersRow, standIns := [], harness := (true, "9e07f4e0b0ccdcef0d44aab90039589579cf08a555fefe9addc6df965cb47113"), looks := false }, kinds := [], alts := [], laidByText := true, laidKinds := [.data], laidTests := true, laidLooks := .later }
def PlaceOrdersCardSaid : Prop := Claim7.holds Tryd.pinned (.plain (OpenSpec.ofChange placeOrdersSpec)) placeOrdersCard

/-- THE TIED CARD OF 'baileylaw29.PlaceOnce'. -/
def placeOnceCard : Claim7 := { stood := { row := placeOnceRow, standIns := [], harness := (true, "9e07f4e0b0ccdcef0d44aab90039589579cf08a555fefe9addc6df965cb47113"), looks := false }, kinds := [], alts := [], laidByText := true, laidKinds := [.data], laidTests := true, laidLooks := .later }
def PlaceOnceCardSaid : Prop := Claim7.holds Tryd.pinned (.plain (OpenSpec.ofChange placeOnceSpec)) placeOnceCard

/-- THE TIED CARD OF 'baileylaw29.PlaceLacks'. -/
def placeLacksCard : Claim7 := { stood := { row := placeLacksRow, standIns := [], harness := (true, "9e07f4e0b0ccdcef0d44aab90039589579cf08a555fefe9addc6df965cb47113"), looks := false }, kinds := [], alts := [], laidByText := true, laidKinds := [.data], laidTests := true, laidLooks := .later }
def PlaceLacksCardSaid : Prop := Claim7.holds Tryd.pinned (.plain (OpenSpec.ofChange placeLacksSpec)) placeLacksCard

/-- THE SECOND FORM's CARD OF 'baileylaw29.PlaceOrders'. -/
def placeOrdersUptoCard : Claim7 := { stood := { row := placeOrdersUptoRow, standIns := [], harness := (true, "9e07f4e0b0ccdcef0d44aab90039589579cf08a555fefe9addc6df965cb47113"), looks := false }, kinds := [], alts := [], laidByText := true, laidKinds := [.data], laidTests := true, laidLooks := .later }
def PlaceOrdersUptoCardSaid : Prop := Claim7.holds Tryd.pinned (.plain (OpenSpec.upto placeOrdersSpec)) placeOrdersUptoCard

/-- THE SECOND FORM's CARD OF 'baileylaw29.PlaceOnce'. -/
def placeOnceUptoCard : Claim7 := { stood := { row := placeOnceUptoRow, standIns := [], harness := (true, "9e07f4e0b0ccdcef0d44aab90039589579cf08a555fefe9addc6df965cb47113"), looks := false }, kinds := [], alts := [], laidByText := true, laidKinds := [.data], laidTests := true, laidLooks := .later }
def PlaceOnceUptoCardSaid : Prop := Claim7.holds Tryd.pinned (.plain (OpenSpec.upto placeOnceSpec)) placeOnceUptoCard

/-- THE SECOND FORM's CARD OF 'baileylaw29.PlaceLacks'. -/
def placeLacksUptoCard : Claim7 := { stood := { row := placeLacksUptoRow, standIns := [], harness := (true, "9e07f4e0b0ccdcef0d44aab90039589579cf08a555fefe9addc6df965cb47113"), looks := false }, kinds := [], alts := [], laidByText := true, laidKinds := [.data], laidTests := true, laidLooks := .later }
def PlaceLacksUptoCardSaid : Prop := Claim7.holds Tryd.pinned (.plain (OpenSpec.upto placeLacksSpec)) placeLacksUptoCard
end Rows
end Go.Proofs.YthbbiiegbddpdaaDoor
