/- LAYER 23 (command): words: a command, plain and as a value. -/
import Derived.Test.YtmacjpgeamlmhaaMfO
import Derived.Test.YtmacjpgeamlmhaaMfA
import Derived.Test.YtmacjpgeamlmhaaRfu
import Derived.Test.YtmacjpgeamlmhaaCavS
set_option linter.unusedSimpArgs false
set_option linter.unusedVariables false
namespace Go.Proofs.Ytmacjpgeamlmhaa.W
open Go Go.ChangeShapes Go.WideShapes Go.ChangeAt Go.RowKit
open Go.Proofs.Ytmacjpgeamlmhaa.S

/-- a command, plain -/
structure Cm where
  cl : Int
  sq : Int
  kd : Int
  id : Int
  ep : Int
  V : List Cv
  sp : ByteArray
  nm : ByteArray
  nu : Int
  by' : Int
  ti : Int
  P : List Pc
/-- a command, and where its lists lie -/
structure CmX where
  m : Cm
  va : Option Addr
  vn : Nat
  vc : Nat
  pa : Option Addr
  pn : Nat
  pc : Nat
@[reducible] def cmC (cl sq kd id ep : Int) (va : Option Addr) (vn vc : Nat) (sp nm : ByteArray) (nu b ti : Int) (pa : Option Addr) (pn pc : Nat) : List Value :=
  [.int .i64 cl, .int .i64 sq, .int .i64 kd, .int .i64 id, .int .i64 ep, .slice va vn vc, .string sp, .string nm, .int .i64 nu, .int .i64 b, .int .i64 ti, .slice pa pn pc]
@[reducible] def CmX.cells (x : CmX) : List Value := cmC x.m.cl x.m.sq x.m.kd x.m.id x.m.ep x.va x.vn x.vc x.m.sp x.m.nm x.m.nu x.m.by' x.m.ti x.pa x.pn x.pc
structure CmX.fit (w : World) (x : CmX) : Prop where
  cl : SI64 x.m.cl
  sq : SI64 x.m.sq
  kd : SI64 x.m.kd
  id : SI64 x.m.id
  ep : SI64 x.m.ep
  V : Cvs w x.va x.vn x.vc x.m.V
  sp : x.m.sp.size ≤ maxLen
  nm : x.m.nm.size ≤ maxLen
  nu : SI64 x.m.nu
  by' : SI64 x.m.by'
  ti : SI64 x.m.ti
  P : Ls pcE w x.pa x.pn x.pc x.m.P
theorem CmX.fit.mono {w w' : World} {x : CmX} (h : x.fit w) (hb : Below w.heap.size w w') : x.fit w' :=
  ⟨h.cl, h.sq, h.kd, h.id, h.ep, h.V.mono hb, h.sp, h.nm, h.nu, h.by', h.ti, h.P.mono pcOk hb⟩
theorem cm_size : (Try.prog.info? 25).map (·.size) = some 12 := by kernel_rfl
theorem cm_zero : (Try.prog.info? 25).map (·.zero) = some (some (.agg (cmC 0 0 0 0 0 none 0 0 ⟨#[]⟩ ⟨#[]⟩ 0 0 0 none 0 0).toArray)) := by kernel_rfl
theorem cm_one (cl sq kd id ep : Int) (va : Option Addr) (vn vc : Nat) (sp nm : ByteArray) (nu b ti : Int) (pa : Option Addr) (pn pc : Nat) : ∀ v ∈ cmC cl sq kd id ep va vn vc sp nm nu b ti pa pn pc, v.oneCell' = true := by
  intro v hv
  simp at hv
  rcases hv with rfl | rfl | rfl | rfl | rfl | rfl | rfl | rfl | rfl | rfl | rfl | rfl <;> rfl
theorem errno_size : (Try.prog.info? 29).map (·.size) = some 1 := by kernel_rfl
theorem errno_zero : (Try.prog.info? 29).map (·.zero) = some (some (.int .i64 0)) := by kernel_rfl
/-- the cells of a command in memory -/
structure C12 (w : World) (g : Nat) (x : CmX) : Prop where
  c0 : w.cell? ⟨g, 0, none⟩ = some (.int .i64 x.m.cl)
  c1 : w.cell? ⟨g, 1, none⟩ = some (.int .i64 x.m.sq)
  c2 : w.cell? ⟨g, 2, none⟩ = some (.int .i64 x.m.kd)
  c3 : w.cell? ⟨g, 3, none⟩ = some (.int .i64 x.m.id)
  c4 : w.cell? ⟨g, 4, none⟩ = some (.int .i64 x.m.ep)
  c5 : w.cell? ⟨g, 5, none⟩ = some (.slice x.va x.vn x.vc)
  c6 : w.cell? ⟨g, 6, none⟩ = some (.string x.m.sp)
  c7 : w.cell? ⟨g, 7, none⟩ = some (.string x.m.nm)
  c8 : w.cell? ⟨g, 8, none⟩ = some (.int .i64 x.m.nu)
  c9 : w.cell? ⟨g, 9, none⟩ = some (.int .i64 x.m.by')
  c10 : w.cell? ⟨g, 10, none⟩ = some (.int .i64 x.m.ti)
  c11 : w.cell? ⟨g, 11, none⟩ = some (.slice x.pa x.pn x.pc)
theorem Row.cm {w : World} {g : Nat} {t : TypeId} {x : CmX} (h : Row w g t x.cells) : C12 w g x := by
  refine ⟨?_, ?_, ?_, ?_, ?_, ?_, ?_, ?_, ?_, ?_, ?_, ?_⟩ <;> (rw [h.cellV]; rfl)
-- ---- plain: whether it may be
def txtV (s : ByteArray) : Bool := decide (s.toList = []) || nameV s
def allLH (lo hi : Int) (l : List Int) : Bool := l.all (fun x => in64 x lo hi)
def cavsV (L : List Cv) : Bool := decide (L.length ≤ 8) && L.all Cv.ok
def Cm.ok (m : Cm) : Bool :=
  allLH 0 7 [m.cl] && (allLH 1 14 [m.kd] && (allLH 1 2147483648 [m.sq, m.id] && (allLH 0 2147483648 [m.ep, m.nu] && (allLH 0 1099511627776 [m.by'] && (allLH 0 1099511627776 [m.ti] && (cavsV m.V && ([m.sp, m.nm].all txtV && decide ((bytesM m.P).2 = 0))))))))
def Cm.err (m : Cm) : Int := if m.ok then 0 else 1
/-- a command as a value -/
def CmV (w : World) (v : Value) (m : Cm) : Prop := ∃ x : CmX, v = .agg x.cells.toArray ∧ x.m = m ∧ x.fit w
theorem CmV.mono {w w' : World} {v : Value} {m : Cm} (h : CmV w v m) (hb : Below w.heap.size w w') : CmV w' v m := by
  obtain ⟨x, h1, h2, h3⟩ := h
  exact ⟨x, h1, h2, h3.mono hb⟩
end Go.Proofs.Ytmacjpgeamlmhaa.W
