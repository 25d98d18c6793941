/- CONTRACTS of layer 2 (pack): the reference's reader of texts and flags. READERS OF BYTES, the program's and the reference's, beside each other: each stays where the other one is written. -/
import Derived.Test.YtkfhppbmnjmnoaaGreatDoorPackR4b
import Derived.Test.YtkfhppbmnjmnoaaGreatDoorArr
set_option linter.unusedSimpArgs false
set_option linter.unusedVariables false
namespace Go.Proofs.YtkfhppbmnjmnoaaGreatDoor.W
open Go.ChangeShapes Go.WideShapes Go.ChangeAt Go.RowKit
open Go.Proofs.YtkfhppbmnjmnoaaGreatDoor.P (mk lo hi enc tl gr up dec)

theorem RR.of_upd {w w' : World} {p q : Nat} {l : List UInt8} {e : Int} (h : RR w p l e) (hu : Upd w w' q) (hpq : p ≠ q) (hap : ∀ a cap, w.cell? ⟨p, 0, none⟩ = some (.slice a l.length cap) → l.length = 0 ∨ ∀ b off, a = some ⟨b, off, none⟩ → b ≠ q) : RR w' p l e := by
  obtain ⟨a, cap, hh, hr⟩ := h.ex
  exact ⟨⟨a, cap, by rw [hu.block p hpq]; exact hh, hr.upd' hu (hap a cap (cell_at hh 0 _ rfl))⟩, h.small, h.hnone⟩

theorem map_add0 (a : Option Addr) : a.map (·.add 0) = a := by
  cases a with
  | none => rfl
  | some x => simp [Addr.add]





end Go.Proofs.YtkfhppbmnjmnoaaGreatDoor.W

namespace Go.Proofs.YtkfhppbmnjmnoaaGreatDoor.W
open Go.ChangeShapes Go.WideShapes Go.ChangeAt Go.RowKit

theorem RP.lt {w : World} {p : Nat} {l : List UInt8} {e : Int} (h : RP w p l e) : p < w.heap.size := by
  obtain ⟨a, cap, hh, -⟩ := h.ex; exact heap_lt hh
theorem RR.lt {w : World} {p : Nat} {l : List UInt8} {e : Int} (h : RR w p l e) : p < w.heap.size := by
  obtain ⟨a, cap, hh, -⟩ := h.ex; exact heap_lt hh
theorem RP.mono {w w' : World} {p : Nat} {l : List UInt8} {e : Int} (h : RP w p l e) (hb : Below w.heap.size w w') : RP w' p l e := by
  have hlt := h.lt
  obtain ⟨a, cap, hh, hr⟩ := h.ex
  exact ⟨⟨a, cap, by rw [hb.block p hlt]; exact hh, hr.mono hb⟩, h.small, h.hnone⟩
theorem RR.mono {w w' : World} {p : Nat} {l : List UInt8} {e : Int} (h : RR w p l e) (hb : Below w.heap.size w w') : RR w' p l e := by
  have hlt := h.lt
  obtain ⟨a, cap, hh, hr⟩ := h.ex
  exact ⟨⟨a, cap, by rw [hb.block p hlt]; exact hh, hr.mono hb⟩, h.small, h.hnone⟩
theorem RP.drew {w : World} {p : Nat} {l : List UInt8} {e : Int} (h : RP w p l e) : RP w.drew p l e := h.mono (Below.refl _ _).drew
theorem RR.drew {w : World} {p : Nat} {l : List UInt8} {e : Int} (h : RR w p l e) : RR w.drew p l e := h.mono (Below.refl _ _).drew
/-- a reader stays where another one is written -/
theorem RP.other {w w' : World} {p q : Nat} {l l' : List UInt8} {e e' : Int} (h : RP w p l e) (hq : RR w q l' e') (hu : Upd w w' q) : RP w' p l e := by
  obtain ⟨a, cap, hh, hr⟩ := h.ex
  obtain ⟨a2, cap2, hh2, -⟩ := hq.ex
  have hpq : p ≠ q := by
    rintro rfl
    rw [hh] at hh2
    simp at hh2
  exact ⟨⟨a, cap, by rw [hu.block p hpq]; exact hh, hr.upd' hu (hr.apart hh2 (by intro x hx; simp [B] at hx))⟩, h.small, h.hnone⟩
theorem RR.other {w w' : World} {p q : Nat} {l l' : List UInt8} {e e' : Int} (h : RR w p l e) (hq : RP w q l' e') (hu : Upd w w' q) : RR w' p l e := by
  obtain ⟨a, cap, hh, hr⟩ := h.ex
  obtain ⟨a2, cap2, hh2, -⟩ := hq.ex
  have hpq : p ≠ q := by
    rintro rfl
    rw [hh] at hh2
    simp at hh2
  exact ⟨⟨a, cap, by rw [hu.block p hpq]; exact hh, hr.upd' hu (hr.apart hh2 (by intro x hx; simp [B] at hx))⟩, h.small, h.hnone⟩

theorem Rd.gwp {w w' : World} {a : Option Addr} {len cap g : Nat} {l : List UInt8} (h : Rd w a len cap l) (k : Gw g w w') (hap : len = 0 ∨ ∀ b off, a = some ⟨b, off, none⟩ → b ≠ g) : Rd w' a len cap l :=
  h.gw k fun h0 => hap.resolve_left h0
theorem RP.gw {w w' : World} {p q : Nat} {l l' : List UInt8} {e e' : Int} (h : RP w p l e) (hq : RR w q l' e') (hu : Gw q w w') : RP w' p l e := by
  have hlt := h.lt
  obtain ⟨a, cap, hh, hr⟩ := h.ex
  obtain ⟨a2, cap2, hh2, -⟩ := hq.ex
  have hpq : p ≠ q := by
    rintro rfl
    rw [hh] at hh2
    simp at hh2
  exact ⟨⟨a, cap, by rw [hu.block p hlt hpq]; exact hh, hr.gwp hu (hr.apart hh2 (by intro x hx; simp [B] at hx))⟩, h.small, h.hnone⟩
theorem RR.gw {w w' : World} {p q : Nat} {l l' : List UInt8} {e e' : Int} (h : RR w p l e) (hq : RP w q l' e') (hu : Gw q w w') : RR w' p l e := by
  have hlt := h.lt
  obtain ⟨a, cap, hh, hr⟩ := h.ex
  obtain ⟨a2, cap2, hh2, -⟩ := hq.ex
  have hpq : p ≠ q := by
    rintro rfl
    rw [hh] at hh2
    simp at hh2
  exact ⟨⟨a, cap, by rw [hu.block p hlt hpq]; exact hh, hr.gwp hu (hr.apart hh2 (by intro x hx; simp [B] at hx))⟩, h.small, h.hnone⟩
/-- bytes that came in stay where a reader is written -/
theorem Rd.rp {w w' : World} {a : Option Addr} {len cap p : Nat} {l l' : List UInt8} {e : Int} (h : Rd w a len cap l) (hp : RP w p l' e) (hu : Gw p w w') : Rd w' a len cap l := by
  obtain ⟨a2, cap2, hh2, -⟩ := hp.ex
  exact h.gwp hu (h.apart hh2 (by intro x hx; simp [B] at hx))
theorem Rd.rr {w w' : World} {a : Option Addr} {len cap p : Nat} {l l' : List UInt8} {e : Int} (h : Rd w a len cap l) (hp : RR w p l' e) (hu : Gw p w w') : Rd w' a len cap l := by
  obtain ⟨a2, cap2, hh2, -⟩ := hp.ex
  exact h.gwp hu (h.apart hh2 (by intro x hx; simp [B] at hx))

end Go.Proofs.YtkfhppbmnjmnoaaGreatDoor.W
