/- CAVEATS AND DEEDS as they come in: an argument's value, a slice's cells. PLAIN MATHEMATICS of layer 6 (caveat): names, which caveats may be, what they allow; no program. -/
import Derived.Test.YtkmdbdieloimiaaMem
import Derived.Deep.Slices
import Derived.ChangeSame
set_option linter.unusedSimpArgs false
set_option linter.unusedVariables false
namespace Go.Proofs.Ytkmdbdieloimiaa.W
open Go.ChangeShapes Go.WideShapes Go.ChangeAt Go.RowKit

/-- a caveat -/
structure Cv where
  kind : Int
  num : Int
  name : ByteArray
def Cv.cells (c : Cv) : List Value := [.int .i64 c.kind, .int .i64 c.num, .string c.name]
def Cv.val (c : Cv) : Value := .agg #[.int .i64 c.kind, .int .i64 c.num, .string c.name]
/-- that a machine can hold it -/
def Cv.fit (c : Cv) : Prop := (-9223372036854775808 ≤ c.kind ∧ c.kind ≤ 9223372036854775807) ∧ (-9223372036854775808 ≤ c.num ∧ c.num ≤ 9223372036854775807) ∧ c.name.size ≤ maxLen
instance : Inhabited Cv := ⟨⟨0, 0, ByteArray.empty⟩⟩

/-- a deed -/
structure Dd where
  action : Int
  time : Int
  client : Int
  bytes : Int
  space : ByteArray
  snap : ByteArray
def Dd.val (d : Dd) : Value := .agg #[.int .i64 d.action, .int .i64 d.time, .int .i64 d.client, .int .i64 d.bytes, .string d.space, .string d.snap]
def Dd.fit (d : Dd) : Prop := (-9223372036854775808 ≤ d.action ∧ d.action ≤ 9223372036854775807) ∧ (-9223372036854775808 ≤ d.time ∧ d.time ≤ 9223372036854775807) ∧ (-9223372036854775808 ≤ d.client ∧ d.client ≤ 9223372036854775807) ∧ (-9223372036854775808 ≤ d.bytes ∧ d.bytes ≤ 9223372036854775807) ∧ d.space.size ≤ maxLen ∧ d.snap.size ≤ maxLen

section
variable {H : Type} {enc : TypeId × Value → H} {w : World} {base : Nat} {spare : Nat → Bool} {held : Bool}
set_option maxRecDepth 100000 in
theorem cv_cells {fuel : Nat} {cs : List Value} {x : DataW H × List MemPlace} (h : DataW.trod enc Try.prog w base spare held fuel 60 cs = some x) : ∃ c : Cv, cs = c.cells ∧ c.fit := by
  obtain ⟨xs, n, hn, rfl, hl, hlen, hf⟩ := DataW.trod_struct Try.underlying60 h
  have hcl : Try.prog.cellsOf 60 = 3 := by kernel_rfl
  rw [hcl] at hl
  have f0 := hf 0 _ rfl
  have f1 := hf 1 _ rfl
  have f2 := hf 2 _ rfl
  match cs, hl with
  | [v0, v1, v2], _ =>
    have c1 : Try.prog.cellsOf 3 = 1 := by kernel_rfl
    have c2 : Try.prog.cellsOf 9 = 1 := by kernel_rfl
    match xs, hlen with
    | [x0, x1, x2], _ =>
    simp [c1] at f0 f1
    simp [c2] at f2
    obtain ⟨n0, e0, -, w0⟩ := DataW.trod_int Try.underlying3 f0
    obtain ⟨n1, e1, -, w1⟩ := DataW.trod_int Try.underlying3 f1
    obtain ⟨s, e2, -, w2⟩ := DataW.trod_string Try.underlying9 f2
    simp at e0 e1 e2
    exact ⟨⟨n0, n1, s⟩, by simp [Cv.cells, e0, e1, e2], bd w0, bd w1, w2⟩
set_option maxRecDepth 100000 in
theorem cv_open {base' : Nat} {v : Value} {d : DataW H} {pl : List MemPlace} (hv : Value.okWide Try.prog w .any base' 60 v) (h : DataW.Trod enc Try.prog w base spare held 60 v d pl) : ∃ c : Cv, v = c.val ∧ c.fit := by
  obtain ⟨fuel, hf⟩ := h
  obtain ⟨c, hc, hfit⟩ := cv_cells hf
  obtain ⟨cs, rfl, -⟩ := okWide_struct Try.underlying60 hv
  refine ⟨c, ?_, hfit⟩
  simp [Value.cells] at hc
  unfold Cv.val
  congr 1
  apply Array.ext'
  rw [hc]; rfl
end

/-- A slice of caveats that reads as the list L. -/
structure Cvs (w : World) (a : Option Addr) (len cap : Nat) (L : List Cv) : Prop where
  hlen : L.length = len
  hle : len ≤ cap
  hmax : cap ≤ 9223372036854775807
  hfit : ∀ c ∈ L, c.fit
  hnil : a = none → cap = 0
  hcells : len = 0 ∨ ∃ b off, a = some ⟨b, off, none⟩ ∧ b < w.heap.size ∧ ∀ i, i < len → ∀ j v, (L.getD i default).cells[j]? = some v → w.cell? ⟨b, off + i * 3 + j, none⟩ = some v
theorem Cvs.mono {w w' : World} {a : Option Addr} {len cap : Nat} {L : List Cv} (h : Cvs w a len cap L) (hb : Below w.heap.size w w') : Cvs w' a len cap L := by
  refine ⟨h.hlen, h.hle, h.hmax, h.hfit, h.hnil, ?_⟩
  rcases h.hcells with h0 | ⟨b, off, rfl, hlt, hc⟩
  · exact .inl h0
  · right
    refine ⟨b, off, rfl, Nat.lt_of_lt_of_le hlt hb.size, fun i hi j v hj => ?_⟩
    rw [hb.cell (p := ⟨b, off + i * 3 + j, none⟩) hlt]; exact hc i hi j v hj

set_option maxRecDepth 100000 in
theorem cvs_open {H : Type} {enc : TypeId × Value → H} {w : World} {base : Nat} {spare : Nat → Bool} {held : Bool} {a : Option Addr} {len cap : Nat} {d : DataW H} {pl : List MemPlace}
    (h : DataW.Trod enc Try.prog w base spare held 28 (.slice a len cap) d pl) : ∃ L, Cvs w a len cap L := by
  obtain ⟨fuel, hf⟩ := h
  rcases Go.Deep.open_slice Try.underlying28 hf with ⟨hcs, -⟩ | ⟨x, len', cap', m, n, D, P0, hcs, -, hl, hm, hmm, -, hx⟩
  · simp [Value.cells] at hcs
    obtain ⟨rfl, rfl, rfl⟩ := hcs
    exact ⟨[], rfl, by omega, by omega, by simp, fun _ => rfl, .inl rfl⟩
  · simp [Value.cells] at hcs
    obtain ⟨rfl, rfl, rfl⟩ := hcs
    have hml : len ≤ m := by rw [hmm]; split <;> omega
    have hcl : Try.prog.cellsOf 60 = 3 := by kernel_rfl
    have each : ∀ i, i < len → ∃ c : Cv, c.fit ∧ ∀ j v, c.cells[j]? = some v → w.cell? ((x.add (i * 3)).add j) = some v := by
      intro i hi
      obtain ⟨cs, h1, h2⟩ := hx i (by omega)
      obtain ⟨c, rfl, hfit⟩ := cv_cells h2
      rw [hcl] at h1
      obtain ⟨_, hlen, hcell⟩ := World.cells?_some h1
      refine ⟨c, hfit, fun j v hj => ?_⟩
      have hj3 : j < 3 := by have := (List.getElem?_eq_some_iff.1 hj).1; simpa [Cv.cells] using this
      rw [hcell j hj3, hj]
    obtain ⟨q, hq⟩ := Go.Deep.choose_lt each
    refine ⟨(List.range len).map q, by simp, hl, by unfold maxLen at hm; omega, ?_, (fun h => by cases h), ?_⟩
    · intro c hc
      obtain ⟨i, hi, rfl⟩ := List.mem_map.1 hc
      exact (hq i (by simpa using hi)).1
    · by_cases h0 : len = 0
      · exact .inl h0
      · right
        obtain ⟨b, off, spot⟩ := x
        have hspot : spot = none := by simpa [Addr.add] using World.cell?_spot ((hq 0 (by omega)).2 0 _ rfl)
        subst hspot
        refine ⟨b, off, rfl, ?_, fun i hi j v hj => ?_⟩
        · exact World.block_lt_of_cell? w _ (by have := (hq 0 (by omega)).2 0 _ rfl; rw [Go.WideShapes.add_plain, Go.WideShapes.add_plain] at this; exact this)
        · have hj' : (q i).cells[j]? = some v := by
            rw [← hj]; congr 2; simp [hi]
          have h1 := (hq i hi).2 j v hj'
          rw [Go.WideShapes.add_plain, Go.WideShapes.add_plain] at h1
          exact h1
end Go.Proofs.Ytkmdbdieloimiaa.W

namespace Go.Proofs.Ytkmdbdieloimiaa.W

/-- a name's byte -/
def nb (x : Nat) : Bool := (decide (97 ≤ x) && decide (x ≤ 122)) || ((decide (48 ≤ x) && decide (x ≤ 57)) || (decide (x = 45) || decide (x = 95)))
def nameL (l : List UInt8) : Bool := decide (1 ≤ l.length) && (decide (l.length ≤ 16) && l.all fun x => nb x.toNat)
def nameV (s : ByteArray) : Bool := nameL s.data.toList
def partsV (k : Int) : Int := if k = 1 ∨ k = 4 ∨ k = 5 ∨ k = 6 then 1 else if k = 2 ∨ k = 3 then 2 else 0
def mostV (k : Int) : Int := if k = 1 then 255 else if k = 4 ∨ k = 6 then 1099511627776 else if k = 5 then 7 else 0
def fitsV (p : Int) (s : ByteArray) : Bool := if p = 2 then nameV s else s.toList.isEmpty
def Cv.ok (c : Cv) : Bool := decide (partsV c.kind ≠ 0) && ((decide (0 ≤ c.num) && decide (c.num ≤ mostV c.kind)) && fitsV (partsV c.kind) c.name)
def Cv.err (c : Cv) : Int := if c.ok then 0 else 1
theorem parts_any (k : Int) : (k = 1 ∧ partsV k = 1 ∧ mostV k = 255) ∨ (k = 2 ∧ partsV k = 2 ∧ mostV k = 0) ∨ (k = 3 ∧ partsV k = 2 ∧ mostV k = 0) ∨ (k = 4 ∧ partsV k = 1 ∧ mostV k = 1099511627776) ∨ (k = 5 ∧ partsV k = 1 ∧ mostV k = 7) ∨ (k = 6 ∧ partsV k = 1 ∧ mostV k = 1099511627776) ∨
    ((k < 1 ∨ 6 < k) ∧ (k == 1) = false ∧ (k == 2) = false ∧ (k == 3) = false ∧ (k == 4) = false ∧ (k == 5) = false ∧ (k == 6) = false ∧ partsV k = 0 ∧ mostV k = 0) := by
  unfold partsV mostV
  by_cases h1 : k = 1
  · subst h1; left; exact ⟨rfl, by decide, by decide⟩
  by_cases h2 : k = 2
  · subst h2; right; left; exact ⟨rfl, by decide, by decide⟩
  by_cases h3 : k = 3
  · subst h3; right; right; left; exact ⟨rfl, by decide, by decide⟩
  by_cases h4 : k = 4
  · subst h4; right; right; right; left; exact ⟨rfl, by decide, by decide⟩
  by_cases h5 : k = 5
  · subst h5; right; right; right; right; left; exact ⟨rfl, by decide, by decide⟩
  by_cases h6 : k = 6
  · subst h6; right; right; right; right; right; left; exact ⟨rfl, by decide, by decide⟩
  · right; right; right; right; right; right
    refine ⟨by omega, by simp; omega, by simp; omega, by simp; omega, by simp; omega, by simp; omega, by simp; omega, ?_, ?_⟩
    · rw [if_neg (by omega), if_neg (by omega)]
    · rw [if_neg (by omega), if_neg (by omega), if_neg (by omega)]

end Go.Proofs.Ytkmdbdieloimiaa.W
