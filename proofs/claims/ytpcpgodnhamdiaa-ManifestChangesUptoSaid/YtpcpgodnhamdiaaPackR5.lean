/- CONTRACTS of layer 2 (pack): the reference's reader of texts and flags. READERS OF BYTES, the program's and the reference's, beside each other: each stays where the other one is written. -/
import Derived.Test.YtpcpgodnhamdiaaPackR4b
import Derived.Test.YtpcpgodnhamdiaaArr
set_option linter.unusedSimpArgs false
set_option linter.unusedVariables false
namespace Go.Proofs.Ytpcpgodnhamdiaa.W
open Go.ChangeShapes Go.WideShapes Go.ChangeAt Go.RowKit
open Go.Proofs.Ytpcpgodnhamdiaa.P (mk lo hi enc tl gr up dec)


theorem map_add0 (a : Option Addr) : a.map (·.add 0) = a := by
  cases a with
  | none => rfl
  | some x => simp [Addr.add]





end Go.Proofs.Ytpcpgodnhamdiaa.W

namespace Go.Proofs.Ytpcpgodnhamdiaa.W
open Go.ChangeShapes Go.WideShapes Go.ChangeAt Go.RowKit

theorem RP.lt {w : World} {p : Nat} {l : List UInt8} {e : Int} (h : RP w p l e) : p < w.heap.size := by
  obtain ⟨a, cap, hh, -⟩ := h.ex; exact heap_lt hh
theorem RP.mono {w w' : World} {p : Nat} {l : List UInt8} {e : Int} (h : RP w p l e) (hb : Below w.heap.size w w') : RP w' p l e := by
  have hlt := h.lt
  obtain ⟨a, cap, hh, hr⟩ := h.ex
  exact ⟨⟨a, cap, by rw [hb.block p hlt]; exact hh, hr.mono hb⟩, h.small, h.hnone⟩
theorem RP.drew {w : World} {p : Nat} {l : List UInt8} {e : Int} (h : RP w p l e) : RP w.drew p l e := h.mono (Below.refl _ _).drew

theorem Rd.gwp {w w' : World} {a : Option Addr} {len cap g : Nat} {l : List UInt8} (h : Rd w a len cap l) (k : Gw g w w') (hap : len = 0 ∨ ∀ b off, a = some ⟨b, off, none⟩ → b ≠ g) : Rd w' a len cap l :=
  h.gw k fun h0 => hap.resolve_left h0
/-- bytes that came in stay where a reader is written -/
theorem Rd.rp {w w' : World} {a : Option Addr} {len cap p : Nat} {l l' : List UInt8} {e : Int} (h : Rd w a len cap l) (hp : RP w p l' e) (hu : Gw p w w') : Rd w' a len cap l := by
  obtain ⟨a2, cap2, hh2, -⟩ := hp.ex
  exact h.gwp hu (h.apart hh2 (by intro x hx; simp [B] at hx))

end Go.Proofs.Ytpcpgodnhamdiaa.W
