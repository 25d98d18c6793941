/- ARRAYS THAT CAME IN as arguments: their numbers. No number of a dump but the byte's. -/
import Derived.Test.YtjkkopbhdeljmaaGreatArr
import Derived.Lib.LaidTab
set_option linter.unusedSimpArgs false
set_option linter.unusedVariables false
namespace Go.Proofs.YtjkkopbhdeljmaaGreat.W
open Go.ChangeShapes Go.WideShapes Go.ChangeAt Go.RowKit

theorem open_ints_arr {H : Type} {enc : TypeId × Value → H} {P : Program} {w : World} {base : Nat} {sp : Nat → Bool} {held : Bool} {t e : TypeId} {n : Nat} {k : IntKind} {v : Value} {d : DataW H} {p : List MemPlace}
    (ht : P.underlying t = some (.array n e)) (he : P.underlying e = some (.int k)) (hce : P.cellsOf e = 1) (hct : P.cellsOf t = n) (hn : n ≠ 1)
    (h : DataW.Trod enc P w base sp held t v d p) : ∃ zs : List Int, v = .agg (zs.map (Value.int k)).toArray ∧ zs.length = n ∧ ∀ z ∈ zs, (Lit.int k z).wf = true := by
  obtain ⟨fuel, h⟩ := h
  obtain ⟨cs, hcs⟩ : ∃ cs, v.cells.toList = cs := ⟨_, rfl⟩
  rw [hcs] at h
  cases fuel with
  | zero => simp [DataW.trod] at h
  | succ fuel =>
    simp only [DataW.trod, ht, hce, hct, Nat.mul_one] at h
    split at h
    · rename_i hl
      obtain ⟨xs, hm, -⟩ := Option.map_eq_some_iff.1 h
      have hat : ∀ i, i < n → ∃ z, cs[i]? = some (.int k z) ∧ (Lit.int k z).wf = true := by
        intro i hi
        obtain ⟨b, -, hf⟩ := Lib.mapM_at hm i i (by simp [hi])
        obtain ⟨z, hc, -, hw⟩ := DataW.trod_int he hf
        refine ⟨z, ?_, hw⟩
        have := congrArg (·[0]?) hc
        simpa [List.getElem?_take, List.getElem?_drop] using this
      have hlen : cs.length = n := by simpa using hl
      have hex : ∀ (m : Nat) (l : List Value), l.length = m → (∀ i, i < m → ∃ z, l[i]? = some (.int k z) ∧ (Lit.int k z).wf = true) → ∃ zs : List Int, l = zs.map (Value.int k) ∧ ∀ z ∈ zs, (Lit.int k z).wf = true := by
        intro m
        induction m with
        | zero => intro l hl _; exact ⟨[], by simpa using hl, by simp⟩
        | succ m ih =>
          intro l hl hz
          cases l with
          | nil => simp at hl
          | cons x l =>
            obtain ⟨z, hz0, hw0⟩ := hz 0 (by omega)
            obtain ⟨zs, rfl, hws⟩ := ih l (by simpa using hl) (fun i hi => by simpa using hz (i + 1) (by omega))
            have : x = .int k z := by simpa using hz0
            subst this
            exact ⟨z :: zs, rfl, by simpa using ⟨hw0, hws⟩⟩
      obtain ⟨zs, rfl, hws⟩ := hex n cs hlen hat
      refine ⟨zs, ?_, by simpa using hlen, hws⟩
      have hsz : v.cells.size = n := by have := congrArg List.length hcs; simpa [hlen] using this
      cases v <;> simp [Value.cells] at hsz hcs ⊢ <;> first | (exact absurd hsz.symm hn) | (rw [← hcs]) | skip
    · cases h
theorem ints_words (zs : List Int) (h : ∀ z ∈ zs, (Lit.int .u32 z).wf = true) (f : UInt32 → Value) (hf : ∀ x, f x = .int .u32 (x.toNat : Int)) : zs.map (Value.int .u32) = (zs.map fun z => UInt32.ofNat z.toNat).map f := by
  rw [List.map_map]
  apply List.map_congr_left
  intro z hz
  have h1 := h z hz
  simp [Lit.wf, IntKind.min, IntKind.max, IntKind.bits, IntKind.signed] at h1
  simp only [Function.comp, hf]
  rw [UInt32.toNat_ofNat_of_lt' (show z.toNat < 4294967296 by omega)]
  congr 1; omega
theorem ints_bytes (zs : List Int) (h : ∀ z ∈ zs, (Lit.int .u8 z).wf = true) : zs.map (Value.int .u8) = (zs.map fun z => UInt8.ofNat z.toNat).map B := by
  rw [List.map_map]
  apply List.map_congr_left
  intro z hz
  have h1 := bd8 (h z hz)
  simp only [Function.comp, B]
  rw [UInt8.toNat_ofNat_of_lt' (show z.toNat < 256 by omega)]
  congr 1; omega
end Go.Proofs.YtjkkopbhdeljmaaGreat.W
