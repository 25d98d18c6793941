/- CONTRACTS of layer 2 (pack): the reader. CONTRACTS of layer 2 (pack): the reader, the second part. CONTRACTS of layer 2 (pack): the reader, the third part: numbers, texts, flags. CONTRACTS of layer 2 (pack): the reader, the fourth part: flags, Open; the reference's reader. -/
import Derived.Test.YtkfhppbmnjmnoaaGreatDoorPackW
import Derived.Laws.IdiomStrings
import Derived.Laws.BytesArg
set_option linter.unusedSimpArgs false
set_option linter.unusedVariables false
namespace Go.Proofs.YtkfhppbmnjmnoaaGreatDoor.W
open Go.ChangeShapes Go.WideShapes Go.ChangeAt Go.RowKit
open Go.Proofs.YtkfhppbmnjmnoaaGreatDoor.P (mk lo hi enc tl gr up dec)

/-- A reader of package pack at block p: what is left, and its error. -/
structure RP (w : World) (p : Nat) (l : List UInt8) (e : Int) : Prop where
  ex : ∃ a cap, w.heap[p]? = some (.cells #[.bool true, .slice a l.length cap, .int .i64 e] 99999 (0, 0)) ∧ Rd w a l.length cap l
  small : l.length ≤ 140737488355000
  hnone : e ≠ 0 → l = []

theorem heap_lt {w : World} {p : Nat} {o : Obj} (h : w.heap[p]? = some o) : p < w.heap.size := (Array.getElem?_eq_some_iff.1 h).1
theorem cell_at {w : World} {p : Nat} {cs : Array Value} {t : TypeId} (h : w.heap[p]? = some (.cells cs t (0, 0))) (j : Nat) (v : Value) (hj : cs[j]? = some v) : w.cell? ⟨p, j, none⟩ = some v := by
  rw [cell_of_row w p j cs t _ h]; exact hj
/-- bytes lie in no block whose cells are no bytes -/
theorem Rd.apart {w : World} {a : Option Addr} {len cap : Nat} {l : List UInt8} (h : Rd w a len cap l) {p : Nat} {cs : Array Value} {t : TypeId} (hp : w.heap[p]? = some (.cells cs t (0, 0)))
    (hn : ∀ (x : UInt8), B x ∉ cs.toList) : len = 0 ∨ ∀ b off, a = some ⟨b, off, none⟩ → b ≠ p := by
  by_cases h0 : len = 0
  · exact .inl h0
  · right
    obtain ⟨b, off, rfl, -, hc⟩ := h.lt_of h0
    intro b' off' e
    simp at e
    obtain ⟨rfl, rfl⟩ := e
    rintro rfl
    have h1 := hc 0 (by omega)
    rw [cell_of_row w b (off + 0) cs t _ hp] at h1
    exact hn _ (by rw [← Array.mem_def]; exact Array.mem_of_getElem? h1)
theorem Rd.upd' {w w' : World} {a : Option Addr} {len cap g : Nat} {l : List UInt8} (h : Rd w a len cap l) (hu : Upd w w' g) (hg : len = 0 ∨ ∀ b off, a = some ⟨b, off, none⟩ → b ≠ g) : Rd w' a len cap l := by
  rcases hg with h0 | hg
  · exact ⟨h.hlen, h.hle, h.hmax, h.hnil, .inl h0⟩
  · exact h.upd hu hg

/-- a number in front of bytes, and what is left -/
theorem rd_drop {w : World} {a : Option Addr} {len cap : Nat} {l : List UInt8} (h : Rd w a len cap l) (n : Nat) (hn : n ≤ len) :
    Rd w (if cap = n then a else a.map (·.add n)) (len - n) (cap - n) (l.drop n) := by
  obtain ⟨h1, h2, h3, h4, h5⟩ := h
  refine ⟨by simp [h1], by omega, by omega, ?_, ?_⟩
  · intro h
    split at h
    · omega
    · have : a = none := by simpa using h
      have := h4 this; omega
  · by_cases hl : len - n = 0
    · exact .inl hl
    · right
      rcases h5 with h5 | ⟨b, off, rfl, hlt, hc⟩
      · omega
      · refine ⟨b, off + n, ?_, hlt, fun i hi => ?_⟩
        · rw [if_neg (by omega)]; simp [Go.WideShapes.add_plain]
        · have := hc (n + i) (by omega)
          rw [show off + n + i = off + (n + i) by omega, this]
          simp [List.getD_eq_getElem?_getD]
theorem rd_take {w : World} {a : Option Addr} {len cap : Nat} {l : List UInt8} (h : Rd w a len cap l) (n : Nat) (hn : n ≤ len) (c : Nat) (hc1 : n ≤ c) (hc2 : c ≤ cap) :
    Rd w a n c (l.take n) := by
  obtain ⟨h1, h2, h3, h4, h5⟩ := h
  refine ⟨by simp; omega, hc1, by omega, fun h => by have := h4 h; omega, ?_⟩
  by_cases hl : n = 0
  · exact .inl hl
  · right
    rcases h5 with h5 | ⟨b, off, rfl, hlt, hc⟩
    · omega
    · refine ⟨b, off, rfl, hlt, fun i hi => ?_⟩
      rw [hc i (by omega)]
      simp [List.getD_eq_getElem?_getD, hi]

theorem or_add (acc : Nat) (x : UInt8) (h : (acc : Int) ≤ 72057594037927935) : bits .or .i64 ((acc : Int) * 128) ((x.toNat : Int) % 128) = ((acc * 128 + x.toNat % 128 : Nat) : Int) := by
  rw [Go.Proofs.YtkfhppbmnjmnoaaGreatDoor.B.or_i64]
  have h1 : Go.Proofs.YtkfhppbmnjmnoaaGreatDoor.B.U ((acc : Int) * 128) = acc * 128 := by unfold Go.Proofs.YtkfhppbmnjmnoaaGreatDoor.B.U; omega
  have h2 : Go.Proofs.YtkfhppbmnjmnoaaGreatDoor.B.U ((x.toNat : Int) % 128) = x.toNat % 128 := by unfold Go.Proofs.YtkfhppbmnjmnoaaGreatDoor.B.U; omega
  rw [h1, h2, nat_join 7 (acc * 128) (x.toNat % 128) (by omega) (by omega), IntKind.wrap_i64]
  omega


end Go.Proofs.YtkfhppbmnjmnoaaGreatDoor.W

namespace Go.Proofs.YtkfhppbmnjmnoaaGreatDoor.W
open Go.ChangeShapes Go.WideShapes Go.ChangeAt Go.RowKit
open Go.Proofs.YtkfhppbmnjmnoaaGreatDoor.P (mk lo hi enc tl gr up dec)

/-- a reader's cells -/
theorem RP.cells {w : World} {p : Nat} {l : List UInt8} {e : Int} (h : RP w p l e) : ∃ a cap, w.cell? ⟨p, 0, none⟩ = some (.bool true) ∧ w.cell? ⟨p, 1, none⟩ = some (.slice a l.length cap) ∧ w.cell? ⟨p, 2, none⟩ = some (.int .i64 e) ∧
    w.frozen? ⟨p, 1, none⟩ = false ∧ w.frozen? ⟨p, 2, none⟩ = false ∧ Rd w a l.length cap l ∧ (l.length = 0 ∨ ∀ b off, a = some ⟨b, off, none⟩ → b ≠ p) := by
  obtain ⟨a, cap, hh, hr⟩ := h.ex
  refine ⟨a, cap, cell_at hh 0 _ rfl, cell_at hh 1 _ rfl, cell_at hh 2 _ rfl, frozen_of_row w p 1 _ _ hh, frozen_of_row w p 2 _ _ hh, hr, hr.apart hh ?_⟩
  intro x hx
  simp [B] at hx



/-- how a reader stands at its end -/
def endV (l : List UInt8) (e : Int) : Int := if e ≠ 0 then e else if l.length = 0 then 0 else 3


/-- a reader behind a failure -/
def failL (l : List UInt8) (e f : Int) : List UInt8 := if e ≠ 0 ∨ f = 0 then l else []
def failE (e f : Int) : Int := if e ≠ 0 ∨ f = 0 then e else f

/-- a reader whose rest and error were written anew -/
theorem RP.store {w : World} {p : Nat} {l : List UInt8} {e : Int} (h : RP w p l e) (a' : Option Addr) (cap' : Nat) (l' : List UInt8) (hr : Rd w a' l'.length cap' l') (hap : l'.length = 0 ∨ ∀ b off, a' = some ⟨b, off, none⟩ → b ≠ p) (hs : l'.length ≤ 140737488355000) (he : e ≠ 0 → l' = []) :
    RP (w.setCell ⟨p, 1, none⟩ (.slice a' l'.length cap')) p l' e := by
  obtain ⟨a, cap, hh, -⟩ := h.ex
  refine ⟨⟨a', cap', ?_, hr.upd' (Upd.setCell _ _ _ _) hap⟩, hs, he⟩
  exact heap_setCell_same w p 1 _ _ _ hh





end Go.Proofs.YtkfhppbmnjmnoaaGreatDoor.W

namespace Go.Proofs.YtkfhppbmnjmnoaaGreatDoor.W
open Go.ChangeShapes Go.WideShapes Go.ChangeAt Go.RowKit
open Go.Proofs.YtkfhppbmnjmnoaaGreatDoor.P (mk lo hi enc tl gr up dec)

/-- what reading a number answers, what is left, the error -/
def numR (most : Int) (l : List UInt8) (e : Int) : Nat × List UInt8 × Int :=
  if e ≠ 0 then (0, l, e)
  else if (dec 9 0 0 l).2.2 ≠ 0 then (0, [], (dec 9 0 0 l).2.2)
  else if most < ((dec 9 0 0 l).1 : Int) then (0, [], 5)
  else ((dec 9 0 0 l).1, l.drop (dec 9 0 0 l).2.1, 0)
theorem numR_err {most : Int} {l : List UInt8} {e : Int} (h : e ≠ 0) : numR most l e = (0, l, e) := by unfold numR; rw [if_pos h]
theorem numR_bad {most : Int} {l : List UInt8} (h : (dec 9 0 0 l).2.2 ≠ 0) : numR most l 0 = (0, [], (dec 9 0 0 l).2.2) := by unfold numR; rw [if_neg (by simp), if_pos h]
theorem numR_long {most : Int} {l : List UInt8} (h : (dec 9 0 0 l).2.2 = 0) (hm : most < ((dec 9 0 0 l).1 : Int)) : numR most l 0 = (0, [], 5) := by unfold numR; rw [if_neg (by simp), if_neg (by simp [h]), if_pos hm]
theorem numR_ok {most : Int} {l : List UInt8} (h : (dec 9 0 0 l).2.2 = 0) (hm : ¬ most < ((dec 9 0 0 l).1 : Int)) : numR most l 0 = ((dec 9 0 0 l).1, l.drop (dec 9 0 0 l).2.1, 0) := by unfold numR; rw [if_neg (by simp), if_neg (by simp [h]), if_neg hm]
theorem numR_lt (most : Int) (l : List UInt8) (e : Int) : ((numR most l e).1 : Int) ≤ 9223372036854775807 := by
  have := P.dec_rng l
  unfold numR; split
  · simp
  · split
    · simp
    · split
      · simp
      · simp only; omega



/-- what reading a text answers, what is left, the error -/
def textR (most : Int) (l : List UInt8) (e : Int) : List UInt8 × List UInt8 × Int :=
  if (numR most l e).2.2 ≠ 0 then ([], (numR most l e).2.1, (numR most l e).2.2)
  else if (numR most l e).2.1.length < (numR most l e).1 then ([], [], 4)
  else ((numR most l e).2.1.take (numR most l e).1, (numR most l e).2.1.drop (numR most l e).1, 0)


end Go.Proofs.YtkfhppbmnjmnoaaGreatDoor.W

namespace Go.Proofs.YtkfhppbmnjmnoaaGreatDoor.W
open Go.ChangeShapes Go.WideShapes Go.ChangeAt Go.RowKit
open Go.Proofs.YtkfhppbmnjmnoaaGreatDoor.P (mk lo hi enc tl gr up dec)

/-- what reading a flag answers, what is left, the error -/
def yesR (l : List UInt8) (e : Int) : Bool × List UInt8 × Int :=
  if e ≠ 0 then (false, l, e) else
  match l with
  | [] => (false, [], 4)
  | x :: t => if 1 < x.toNat then (false, [], 3) else (x.toNat == 1, t, 0)



/-- A reader of the reference at block p: what is left, and its error. -/
structure RR (w : World) (p : Nat) (l : List UInt8) (e : Int) : Prop where
  ex : ∃ a cap, w.heap[p]? = some (.cells #[.slice a l.length cap, .int .i64 e] 99999 (0, 0)) ∧ Rd w a l.length cap l
  small : l.length ≤ 140737488355000
  hnone : e ≠ 0 → l = []
theorem RR.cells {w : World} {p : Nat} {l : List UInt8} {e : Int} (h : RR w p l e) : ∃ a cap, w.cell? ⟨p, 0, none⟩ = some (.slice a l.length cap) ∧ w.cell? ⟨p, 1, none⟩ = some (.int .i64 e) ∧
    w.frozen? ⟨p, 0, none⟩ = false ∧ w.frozen? ⟨p, 1, none⟩ = false ∧ Rd w a l.length cap l ∧ (l.length = 0 ∨ ∀ b off, a = some ⟨b, off, none⟩ → b ≠ p) := by
  obtain ⟨a, cap, hh, hr⟩ := h.ex
  refine ⟨a, cap, cell_at hh 0 _ rfl, cell_at hh 1 _ rfl, frozen_of_row w p 0 _ _ hh, frozen_of_row w p 1 _ _ hh, hr, hr.apart hh ?_⟩
  intro x hx
  simp [B] at hx
theorem RR.store {w : World} {p : Nat} {l : List UInt8} {e : Int} (h : RR w p l e) (a' : Option Addr) (cap' : Nat) (l' : List UInt8) (hr : Rd w a' l'.length cap' l') (hap : l'.length = 0 ∨ ∀ b off, a' = some ⟨b, off, none⟩ → b ≠ p) (hs : l'.length ≤ 140737488355000) (he : e ≠ 0 → l' = []) :
    RR (w.setCell ⟨p, 0, none⟩ (.slice a' l'.length cap')) p l' e := by
  obtain ⟨a, cap, hh, -⟩ := h.ex
  refine ⟨⟨a', cap', ?_, hr.upd' (Upd.setCell _ _ _ _) hap⟩, hs, he⟩
  exact heap_setCell_same w p 0 _ _ _ hh
/-- the first n bytes go -/
theorem RR.dropped {w : World} {p : Nat} {l : List UInt8} (h : RR w p l 0) {a : Option Addr} {cap : Nat} (hc : w.cell? ⟨p, 0, none⟩ = some (.slice a l.length cap)) (n : Nat) (hl : n ≤ l.length) :
    RR (w.setCell ⟨p, 0, none⟩ (.slice (if cap = n then a else a.map (·.add n)) (l.length - n) (cap - n))) p (l.drop n) 0 := by
  obtain ⟨a2, cap2, c0, -, -, -, hr, hap⟩ := h.cells
  rw [c0] at hc
  simp only [Option.some.injEq, Value.slice.injEq, true_and] at hc
  obtain ⟨rfl, rfl⟩ := hc
  have hsm := h.small
  have hd := rd_drop hr n hl
  have hdl : (l.drop n).length = l.length - n := by simp
  have hda : (l.drop n).length = 0 ∨ ∀ b off, (if cap2 = n then a2 else a2.map (·.add n)) = some ⟨b, off, none⟩ → b ≠ p := by
    rcases hap with h0 | hap
    · left; omega
    · by_cases hz : (l.drop n).length = 0
      · exact .inl hz
      · right
        intro b off hb
        have hle := hr.hle
        rw [if_neg (by omega)] at hb
        rcases hr.hcells with h0 | ⟨b2, off2, rfl, -, -⟩
        · omega
        · simp only [Option.map_some, Go.WideShapes.add_plain] at hb
          obtain ⟨rfl, -⟩ := by simpa using hb
          exact hap _ _ rfl
  have := h.store _ (cap2 - n) (l.drop n) (by rw [hdl]; exact hd) hda (by omega) (fun h => absurd rfl h)
  rw [hdl] at this; exact this







end Go.Proofs.YtkfhppbmnjmnoaaGreatDoor.W
