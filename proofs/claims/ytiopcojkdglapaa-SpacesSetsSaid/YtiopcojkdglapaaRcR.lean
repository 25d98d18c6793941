/- LAYER 11 (record): ReadEntry of both. -/
import Derived.Test.YtiopcojkdglapaaRcW
import Derived.Laws.ResultCell
set_option linter.unusedSimpArgs false
set_option linter.unusedVariables false
namespace Go.Proofs.Ytiopcojkdglapaa.W
open Go Go.ChangeShapes Go.WideShapes Go.ChangeAt Go.RowKit
open Go.Proofs.Ytiopcojkdglapaa.P (enc dec)

/-- may an entry of these numbers, and of so many bytes, be -/
def okP (ix tm kd : Int) (n : Nat) : Bool := enOk ⟨ix, tm, kd, none, n, 0⟩
abbrev EnR := (Int × Int × Int × List UInt8) × List UInt8 × Int
def finE (ix tm kd : Int) (d : List UInt8) (l : List UInt8) (e : Int) : EnR :=
  if okP ix tm kd d.length then (if e ≠ 0 then (0, 0, 0, []) else (ix, tm, kd, d), l, e) else ((0, 0, 0, []), failL l e 3, failE e 3)
def eR1 (l : List UInt8) (e : Int) := numR 2147483648 (numR 2147483648 l e).2.1 (numR 2147483648 l e).2.2
def eR2 (l : List UInt8) (e : Int) := numR 2 (eR1 l e).2.1 (eR1 l e).2.2
def eR3 (l : List UInt8) (e : Int) := textR 4096 (eR2 l e).2.1 (eR2 l e).2.2
/-- what reading an entry answers, what is left, the error -/
def rdE (l : List UInt8) (e : Int) : EnR := finE (numR 2147483648 l e).1 (eR1 l e).1 (eR2 l e).1 (eR3 l e).1 (eR3 l e).2.1 (eR3 l e).2.2
theorem finE_no {ix tm kd : Int} {d l : List UInt8} {e : Int} (h : okP ix tm kd d.length = false) : finE ix tm kd d l e = ((0, 0, 0, []), failL l e 3, failE e 3) := by unfold finE; rw [h]; rfl
theorem finE_ok {ix tm kd : Int} {d l : List UInt8} (h : okP ix tm kd d.length = true) : finE ix tm kd d l 0 = ((ix, tm, kd, d), l, 0) := by unfold finE; rw [h]; rfl
theorem finE_err {ix tm kd : Int} {d l : List UInt8} {e : Int} (h : e ≠ 0) : finE ix tm kd d l e = ((0, 0, 0, []), l, e) := by
  unfold finE failL failE
  rcases okP ix tm kd d.length
  · rw [if_neg (by decide), if_pos (.inl h), if_pos (.inl h)]
  · rw [if_pos rfl, if_pos h]
theorem failE_ne (e : Int) : failE e 3 ≠ 0 := by
  unfold failE
  split
  · rename_i h; simpa using h
  · decide
def NB (cs : List Value) : Prop := ∀ x : UInt8, B x ∉ cs
theorem RP.put {w w' : World} {p g : Nat} {t : TypeId} {l : List UInt8} {e : Int} {L : List Value} (h : RP w p l e) (hpg : p ≠ g) (hq : Row w g t L) (hnb : NB L) (hu : Upd w w' g) : RP w' p l e := by
  obtain ⟨a, cap, hh, hr⟩ := h.ex
  exact ⟨⟨a, cap, by rw [hu.block p hpg]; exact hh, hr.upd' hu (hr.apart hq (fun x hx => hnb x (by simpa using hx)))⟩, h.small, h.hnone⟩
theorem RR.put {w w' : World} {p g : Nat} {t : TypeId} {l : List UInt8} {e : Int} {L : List Value} (h : RR w p l e) (hpg : p ≠ g) (hq : Row w g t L) (hnb : NB L) (hu : Upd w w' g) : RR w' p l e := by
  obtain ⟨a, cap, hh, hr⟩ := h.ex
  exact ⟨⟨a, cap, by rw [hu.block p hpg]; exact hh, hr.upd' hu (hr.apart hq (fun x hx => hnb x (by simpa using hx)))⟩, h.small, h.hnone⟩
theorem Rd.put {w w' : World} {g : Nat} {t : TypeId} {a : Option Addr} {n c : Nat} {l : List UInt8} {L : List Value} (h : Rd w a n c l) (hq : Row w g t L) (hnb : NB L) (hu : Upd w w' g) : Rd w' a n c l :=
  h.upd' hu (h.apart hq (fun x hx => hnb x (by simpa using hx)))
theorem NB_en (x y z : Int) (a : Option Addr) (n c : Nat) : NB (En.cells ⟨x, y, z, a, n, c⟩) := by
  intro x hx
  simp [En.cells, B] at hx
end Go.Proofs.Ytiopcojkdglapaa.W
