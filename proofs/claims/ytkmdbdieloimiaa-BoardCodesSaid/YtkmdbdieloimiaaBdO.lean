/- LAYER 25 (board): words: a share, plain and as it lies in memory; a board. -/
import Derived.Test.YtkmdbdieloimiaaIz
import Derived.Test.YtkmdbdieloimiaaSlg
import Derived.Test.YtkmdbdieloimiaaRun
set_option linter.unusedSimpArgs false
set_option linter.unusedVariables false
namespace Go.Proofs.Ytkmdbdieloimiaa.W
open Go Go.ChangeShapes Go.WideShapes Go.ChangeAt Go.RowKit
open Go.Proofs.Ytkmdbdieloimiaa.S

/-- a share -/
structure Sh where
  ln : Int
  by' : Int
deriving DecidableEq
structure Sh.fit (s : Sh) : Prop where
  ln : SI64 s.ln
  by' : SI64 s.by'
@[reducible] def Sh.cells (s : Sh) : List Value := [.int .i64 s.ln, .int .i64 s.by']
@[reducible] def shE : El Sh := ⟨23, 58, 2, 16, .agg #[.int .i64 0, .int .i64 0], Sh.cells, fun _ s => s.fit⟩
theorem shOk : shE.Ok Try.prog where
  und := Try.underlying23
  info := by kernel_rfl
  zs := rfl
  pos := by decide
  len := fun _ => rfl
  one := fun s v hv => by simp at hv; rcases hv with rfl | rfl <;> rfl
  mono := fun _ _ _ h _ => h
  small := by decide
theorem sh_size : (Try.prog.info? 58).map (·.size) = some 2 := by kernel_rfl
theorem sh_zero : (Try.prog.info? 58).map (·.zero) = some (some (.agg #[.int .i64 0, .int .i64 0])) := by kernel_rfl
theorem shNb : shE.Nb where
  z := by intro x hx; simp [B, Value.cells] at hx
  c := fun s => by intro x hx; simp [B, Sh.cells] at hx
  p := by decide
theorem Row.k2 {w : World} {g : Nat} {t : TypeId} {a b : Value} (h : Row w g t [a, b]) : w.cell? ⟨g, 0, none⟩ = some a ∧ w.cell? ⟨g, 1, none⟩ = some b := by
  refine ⟨?_, ?_⟩ <;> (rw [h.cellV]; rfl)
-- ---- plain
def shOkV (s : Sh) : Bool := in64 s.ln 1 4 && in64 s.by' 1 1099511627776
def ofS (x : Int) (s : Sh) : Bool := decide (s.ln = x)
def abS (x : Int) (s : Sh) : Bool := decide (x < s.ln)
def wrS (s : Sh) : Bool := !shOkV s
def behS (p : Option Int) (s : Sh) : Bool := match p with | none => true | some q => decide (q < s.ln)
def riseS : Option Int → List Sh → Bool
  | _, [] => true
  | p, s :: L => behS p s && riseS (some s.ln) L
def sumS (L : List Sh) : Int := (L.map Sh.by').sum
structure Bd where
  cap : Int
  L : List Sh
deriving DecidableEq
@[reducible] def bdC (cp : Int) (a : Option Addr) (n c : Nat) : List Value := [.int .i64 cp, .slice a n c]
theorem bd_size : (Try.prog.info? 25).map (·.size) = some 2 := by kernel_rfl
theorem bd_zero : (Try.prog.info? 25).map (·.zero) = some (some (.agg (bdC 0 none 0 0).toArray)) := by kernel_rfl
theorem bd_one (cp : Int) (a : Option Addr) (n c : Nat) : ∀ v ∈ bdC cp a n c, v.oneCell' = true := by
  intro v hv
  simp at hv
  rcases hv with rfl | rfl <;> rfl
/-- a board as a value -/
def BdV (w : World) (v : Value) (b : Bd) : Prop := ∃ a n c, v = .agg (bdC b.cap a n c).toArray ∧ SI64 b.cap ∧ Ls shE w a n c b.L
theorem BdV.mono {w w' : World} {v : Value} {b : Bd} (h : BdV w v b) (hb : Below w.heap.size w w') : BdV w' v b := by
  obtain ⟨a, n, c, h1, h2, h3⟩ := h
  exact ⟨a, n, c, h1, h2, h3.mono shOk hb⟩
def Bd.ok (b : Bd) : Bool := in64 b.cap 0 1099511627776 && (riseS none b.L && (b.L.all shOkV && decide (sumS b.L ≤ b.cap)))
end Go.Proofs.Ytkmdbdieloimiaa.W
