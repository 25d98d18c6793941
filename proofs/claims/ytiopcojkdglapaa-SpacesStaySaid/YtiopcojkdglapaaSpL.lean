/- LAYER 18 (spaces): the four laws, as the frames ask. -/
import Derived.Test.YtiopcojkdglapaaSpPa
set_option linter.unusedSimpArgs false
set_option linter.unusedVariables false
namespace Go.Proofs.Ytiopcojkdglapaa.W
open Go Go.ChangeShapes Go.WideShapes Go.ChangeAt Go.RowKit

theorem law_SpacesMay (a : Option Addr) (n c : Nat) (L : List Sp) (nm : ByteArray) (cl : Int) (wr : Bool) (w : World) (h : Ls spE w a n c L) {p : Prop} (_ : p) {q : Prop} (_ : q) :
    Calls Try.prog 4 #[.slice a n c, .string nm, .int .i64 cl, .bool wr] w fun x w' => x = .returned (.bool true) ∧ Below w.heap.size w w' :=
  may_of pspSet pspMay a n c L nm cl wr w h
theorem law_SpacesSets (a : Option Addr) (n c : Nat) (L : List Sp) (s : Sp) (nm : ByteArray) (w : World) (h : Ls spE w a n c L) (hs : s.fit) {p : Prop} (_ : p) :
    Calls Try.prog 3 #[.slice a n c, .agg s.cells.toArray, .string nm] w fun x w' => x = .returned (.bool true) ∧ Below w.heap.size w w' :=
  sets_of pspSet pspMay pspCheck pspFind a n c L s nm w h hs
theorem law_SpacesStay (a : Option Addr) (n c : Nat) (L : List Sp) (s : Sp) (nm : ByteArray) (w : World) (h : Ls spE w a n c L) (hs : s.fit) {p : Prop} (_ : p) :
    Calls Try.prog 6 #[.slice a n c, .agg s.cells.toArray, .string nm] w fun x w' => x = .returned (.bool true) ∧ Below w.heap.size w w' :=
  stay_of pspSet pspMay pspCheck pspFind pspPut pspRead pspSame a n c L s nm w h hs
theorem law_SpacesCodes (a : Option Addr) (n c : Nat) (L : List Sp) (a' : Option Addr) (n' c' : Nat) (M : List Sp) (ba : Option Addr) (bm bc : Nat) (zs : List Int) (w : World) (h : Ls spE w a n c L ∧ ∀ s ∈ L, s.name.size ≤ 1048576) (h' : Ls spE w a' n' c' M) (hb : IsRow .u8 w ba bm bc zs) :
    Calls Try.prog 5 #[.slice a n c, .slice a' n' c', .slice ba bm bc] w fun x w' => x = .returned (.bool true) ∧ Below w.heap.size w w' :=
  codes_of pspSet pspMay pspPut pspRead pspSame a n c L a' n' c' M ba bm bc _ w h.1 h' (Rd.of_row hb) (fun s hs => Nat.le_trans (h.2 s hs) (by decide))
end Go.Proofs.Ytiopcojkdglapaa.W
