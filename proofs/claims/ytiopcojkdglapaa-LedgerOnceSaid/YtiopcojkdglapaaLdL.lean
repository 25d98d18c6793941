/- LAYER 19 (ledger): the laws Lives and Back, as the frames ask; a ledger as it comes in. -/
import Derived.Test.YtiopcojkdglapaaLdN
import Derived.Test.YtiopcojkdglapaaLdH
set_option linter.unusedSimpArgs false
set_option linter.unusedVariables false
namespace Go.Proofs.Ytiopcojkdglapaa.W
open Go Go.ChangeShapes Go.WideShapes Go.ChangeAt Go.RowKit
open Go.Proofs.Ytiopcojkdglapaa.P (enc dec)

/-- a ledger, and where its holds lie -/
structure LdX where
  l : Ld
  a : Option Addr
  m : Nat
  c : Nat
@[reducible] def LdX.val (x : LdX) : Value := .agg (ldC x.l.q x.l.u x.l.h x.l.n x.a x.m x.c).toArray
section
variable {H : Type} {enc : TypeId × Value → H} {w : World} {base : Nat} {held : Bool}
set_option maxRecDepth 100000 in
theorem ldx_open {base' : Nat} {v : Value} {d : DataW H} {pl : List MemPlace} (hv : Value.okWide Try.prog w .any base' 50 v) (h : DataW.Trod enc Try.prog w base (fun _ => true) held 50 v d pl) : ∃ x : LdX, v = x.val ∧ LdI w x.val x.l := by
  obtain ⟨l, ⟨a, m, c, rfl, hl⟩, hi⟩ := ld_open hv h
  exact ⟨⟨l, a, m, c⟩, rfl, ⟨a, m, c, rfl, hl⟩, hi⟩
end
theorem law_LedgerLives (quota : Int) (a : Option Addr) (n c : Nat) (D : List Do19) (w : World) (hq : (Lit.int .i64 quota).wf = true) (h : Ls doE w a n c D) :
    Calls Try.prog 8 #[.int .i64 quota, .slice a n c] w fun e w' => e = .returned (.bool true) ∧ Below w.heap.size w w' :=
  lives_of19 ldp pcheck quota (bd hq) a n c D w h
theorem law_LedgerBack (x : LdX) (s : Hd) (w : World) (h : LdI w x.val x.l) (hs : s.fit) :
    Calls Try.prog 9 #[x.val, .agg s.cells.toArray] w fun e w' => e = .returned (.bool true) ∧ Below w.heap.size w w' :=
  back_of19 ldp pcheck psame x.val x.l s w h hs
end Go.Proofs.Ytiopcojkdglapaa.W
