/- LISTS OF INTS as lists of structs of one cell: that they read as a list, are built, cloned, compared; what is in them. -/
import Derived.Test.YtkmdbdieloimiaaBi
import Derived.Test.YtkmdbdieloimiaaLn
set_option linter.unusedSimpArgs false
set_option linter.unusedVariables false
namespace Go.Proofs.Ytkmdbdieloimiaa.W
open Go Go.ChangeShapes Go.WideShapes Go.ChangeAt Go.RowKit
open Go.Proofs.Ytkmdbdieloimiaa.S

@[reducible] def intE : El Int := ⟨67, 3, 1, 8, .int .i64 0, fun x => [.int .i64 x], fun _ x => SI64 x⟩
theorem intOk : intE.Ok Try.prog where
  und := Try.underlying67
  info := by kernel_rfl
  zs := rfl
  pos := by decide
  len := fun _ => rfl
  one := fun s v hv => by simp at hv; subst hv; rfl
  mono := fun _ _ _ h _ => h
  small := by decide
theorem int_size : (Try.prog.info? 3).map (·.size) = some 1 := by kernel_rfl
theorem intNb : intE.Nb where
  z := by intro x hx; simp [B, Value.cells] at hx
  c := fun s => by intro x hx; simp [B] at hx
  p := by decide
theorem Ls.sl {w : World} {a : Option Addr} {n c : Nat} {L : List Int} (h : Ls intE w a n c L) : Sl .i64 w a n L := by
  have h1 := h.hle
  have h2 := h.hmax
  refine ⟨h.hlen, by omega, fun x hx => wf64 (h.hfit x hx), ?_⟩
  rcases h.hcells with e | ⟨b, off, rfl, hlt, hc⟩
  · exact .inl e
  · refine .inr ⟨b, off, rfl, hlt, fun i hi => ?_⟩
    have hil : i < L.length := by rw [h.hlen]; exact hi
    have := hc i L[i] (List.getElem?_eq_getElem hil) 0 (.int .i64 L[i]) rfl
    rw [show off + i * intE.k + 0 = off + i by show off + i * 1 + 0 = off + i; omega] at this
    rw [this]; simp [hil]
theorem Sl.ls {w : World} {a : Option Addr} {n c : Nat} {L : List Int} (h : Sl .i64 w a n L) (hc : n ≤ c) (hm : c ≤ 9223372036854775807) (hn : a = none → c = 0) : Ls intE w a n c L := by
  obtain ⟨h1, h2, h3, h4⟩ := h
  refine ⟨h1, hc, hm, fun x hx => bd (h3 x hx), hn, ?_⟩
  rcases h4 with e | ⟨b, off, rfl, hlt, hcell⟩
  · exact .inl e
  · refine .inr ⟨b, off, rfl, hlt, fun i x hi j v hj => ?_⟩
    obtain ⟨hi1, hi2⟩ := List.getElem?_eq_some_iff.1 hi
    have hj1 : j < 1 := (List.getElem?_eq_some_iff.1 hj).1
    obtain rfl : j = 0 := by omega
    have := hcell i (by rw [← h1]; exact hi1)
    rw [show off + i * intE.k + 0 = off + i by show off + i * 1 + 0 = off + i; omega, this]
    simp at hj
    subst hj
    simp [hi1, hi2]
theorem Sl.at {w wr : World} {a : Option Addr} {n : Nat} {L : List Int} (h : Sl .i64 w a n L) (hb : Below w.heap.size w wr) (k : Nat) (hk : k < n) :
    ∃ b off x, a = some ⟨b, off, none⟩ ∧ L[k]? = some x ∧ wr.cell? ⟨b, off + k, none⟩ = some (.int .i64 x) ∧ SI64 x := by
  obtain ⟨h1, h2, h3, h4⟩ := h
  rcases h4 with e | ⟨b, off, rfl, hlt, hcell⟩
  · omega
  · have hk2 : k < L.length := by rw [h1]; exact hk
    refine ⟨b, off, L[k], rfl, by simp [hk2], ?_, bd (h3 _ (List.getElem_mem hk2))⟩
    rw [hb.cell (p := ⟨b, off + k, none⟩) hlt, hcell k hk]
    simp [hk2]
theorem int_out {w' : World} {base : Nat} {a : Option Addr} {n c : Nat} {L : List Int} (h : LsO intE w' base (.slice a n c) L) (hl : L.length = n) (hf : ∀ x ∈ L, SI64 x) : Ls intE w' a n c L ∧ ∀ b off, a = some ⟨b, off, none⟩ → base ≤ b := by
  obtain ⟨a', c', e, hl', hp⟩ := h.ls intOk hf
  rw [hl] at e hl'
  injection e with e1 e2 e3
  subst e1 e3
  exact ⟨hl', fun b off e => (hp b off e).1⟩
/-- a block that is younger than a list -/
theorem Ls.young {α : Type} {E : El α} {w w' : World} {g : Nat} {a : Option Addr} {n c : Nat} {L : List α} (h : Ls E w a n c L) (h0 : 0 < n → ∀ b off, a = some ⟨b, off, none⟩ → b ≠ g) (hu : Upd w w' g) (hf : ∀ x ∈ L, E.fit w' x) : Ls E w' a n c L := by
  refine ⟨h.hlen, h.hle, h.hmax, hf, h.hnil, ?_⟩
  rcases h.hcells with e | ⟨b, off, rfl, hlt, hc⟩
  · exact .inl e
  · rcases Nat.eq_zero_or_pos n with hn | hn
    · exact .inl hn
    · exact .inr ⟨b, off, rfl, Nat.lt_of_lt_of_le hlt (Nat.le_of_eq hu.size.symm), fun i x hi j v hj => by
        rw [World.cell?_of_block (a := ⟨b, off + i * E.k + j, none⟩) (hu.block b (h0 hn b off rfl))]
        exact hc i x hi j v hj⟩
theorem Ls.older {α : Type} {E : El α} {w : World} {a : Option Addr} {n c : Nat} {L : List α} (h : Ls E w a n c L) (hn : 0 < n) : ∀ b off, a = some ⟨b, off, none⟩ → b < w.heap.size := by
  intro b off e
  rcases h.hcells with e0 | ⟨b', off', e', hlt, -⟩
  · omega
  · rw [e] at e'; injection e' with e'; injection e' with e1; subst e1; exact hlt
theorem take_snoc_eqZ {l l' : List Int} {k : Nat} (h : k < l.length) (h' : k < l'.length) (ht : l.take k = l'.take k) (hx : l.getD k 0 = l'.getD k 0) : l.take (k + 1) = l'.take (k + 1) := by
  rw [List.take_succ_eq_append_getElem h, List.take_succ_eq_append_getElem h', ht]
  have h1 : l.getD k 0 = l[k] := by simp [h]
  have h2 : l'.getD k 0 = l'[k] := by simp [h']
  rw [← h1, ← h2, hx]
end Go.Proofs.Ytkmdbdieloimiaa.W
