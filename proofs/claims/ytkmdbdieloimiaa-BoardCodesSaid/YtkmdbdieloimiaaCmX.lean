/- LAYER 23 (command): a command, plain and as it lies in memory. -/
import Derived.Test.YtkmdbdieloimiaaMfO
set_option linter.unusedSimpArgs false
set_option linter.unusedVariables false
namespace Go.Proofs.Ytkmdbdieloimiaa.W
open Go Go.ChangeShapes Go.WideShapes Go.ChangeAt Go.RowKit
open Go.Proofs.Ytkmdbdieloimiaa.S

/-- a command, plain -/
structure Cm where
  cl : Int
  sq : Int
  kd : Int
  id : Int
  ep : Int
  V : List Cv
  sp : ByteArray
  nm : ByteArray
  nu : Int
  by' : Int
  ti : Int
  P : List Pc
/-- a command, and where its lists lie -/
structure CmX where
  m : Cm
  va : Option Addr
  vn : Nat
  vc : Nat
  pa : Option Addr
  pn : Nat
  pc : Nat
@[reducible] def cmC (cl sq kd id ep : Int) (va : Option Addr) (vn vc : Nat) (sp nm : ByteArray) (nu b ti : Int) (pa : Option Addr) (pn pc : Nat) : List Value :=
  [.int .i64 cl, .int .i64 sq, .int .i64 kd, .int .i64 id, .int .i64 ep, .slice va vn vc, .string sp, .string nm, .int .i64 nu, .int .i64 b, .int .i64 ti, .slice pa pn pc]
@[reducible] def CmX.cells (x : CmX) : List Value := cmC x.m.cl x.m.sq x.m.kd x.m.id x.m.ep x.va x.vn x.vc x.m.sp x.m.nm x.m.nu x.m.by' x.m.ti x.pa x.pn x.pc
structure CmX.fit (w : World) (x : CmX) : Prop where
  cl : SI64 x.m.cl
  sq : SI64 x.m.sq
  kd : SI64 x.m.kd
  id : SI64 x.m.id
  ep : SI64 x.m.ep
  V : Cvs w x.va x.vn x.vc x.m.V
  sp : x.m.sp.size ≤ maxLen
  nm : x.m.nm.size ≤ maxLen
  nu : SI64 x.m.nu
  by' : SI64 x.m.by'
  ti : SI64 x.m.ti
  P : Ls pcE w x.pa x.pn x.pc x.m.P
theorem CmX.fit.mono {w w' : World} {x : CmX} (h : x.fit w) (hb : Below w.heap.size w w') : x.fit w' :=
  ⟨h.cl, h.sq, h.kd, h.id, h.ep, h.V.mono hb, h.sp, h.nm, h.nu, h.by', h.ti, h.P.mono pcOk hb⟩
theorem cm_size : (Try.prog.info? 31).map (·.size) = some 12 := by kernel_rfl
theorem cm_zero : (Try.prog.info? 31).map (·.zero) = some (some (.agg (cmC 0 0 0 0 0 none 0 0 ⟨#[]⟩ ⟨#[]⟩ 0 0 0 none 0 0).toArray)) := by kernel_rfl
theorem cm_one (cl sq kd id ep : Int) (va : Option Addr) (vn vc : Nat) (sp nm : ByteArray) (nu b ti : Int) (pa : Option Addr) (pn pc : Nat) : ∀ v ∈ cmC cl sq kd id ep va vn vc sp nm nu b ti pa pn pc, v.oneCell' = true := by
  intro v hv
  simp at hv
  rcases hv with rfl | rfl | rfl | rfl | rfl | rfl | rfl | rfl | rfl | rfl | rfl | rfl <;> rfl
/-- the cells of a command in memory -/
structure C12 (w : World) (g : Nat) (x : CmX) : Prop where
  c0 : w.cell? ⟨g, 0, none⟩ = some (.int .i64 x.m.cl)
  c1 : w.cell? ⟨g, 1, none⟩ = some (.int .i64 x.m.sq)
  c2 : w.cell? ⟨g, 2, none⟩ = some (.int .i64 x.m.kd)
  c3 : w.cell? ⟨g, 3, none⟩ = some (.int .i64 x.m.id)
  c4 : w.cell? ⟨g, 4, none⟩ = some (.int .i64 x.m.ep)
  c5 : w.cell? ⟨g, 5, none⟩ = some (.slice x.va x.vn x.vc)
  c6 : w.cell? ⟨g, 6, none⟩ = some (.string x.m.sp)
  c7 : w.cell? ⟨g, 7, none⟩ = some (.string x.m.nm)
  c8 : w.cell? ⟨g, 8, none⟩ = some (.int .i64 x.m.nu)
  c9 : w.cell? ⟨g, 9, none⟩ = some (.int .i64 x.m.by')
  c10 : w.cell? ⟨g, 10, none⟩ = some (.int .i64 x.m.ti)
  c11 : w.cell? ⟨g, 11, none⟩ = some (.slice x.pa x.pn x.pc)
theorem Row.cm {w : World} {g : Nat} {t : TypeId} {x : CmX} (h : Row w g t x.cells) : C12 w g x := by
  refine ⟨?_, ?_, ?_, ?_, ?_, ?_, ?_, ?_, ?_, ?_, ?_, ?_⟩ <;> (rw [h.cellV]; rfl)
/-- the cells of a command in memory, as they stand -/
structure D12 (w : World) (g : Nat) (cl sq kd id ep : Int) (va : Option Addr) (vn vc : Nat) (sp nm : ByteArray) (nu b ti : Int) (pa : Option Addr) (pn pc : Nat) : Prop where
  c0 : w.cell? ⟨g, 0, none⟩ = some (.int .i64 cl)
  c1 : w.cell? ⟨g, 1, none⟩ = some (.int .i64 sq)
  c2 : w.cell? ⟨g, 2, none⟩ = some (.int .i64 kd)
  c3 : w.cell? ⟨g, 3, none⟩ = some (.int .i64 id)
  c4 : w.cell? ⟨g, 4, none⟩ = some (.int .i64 ep)
  c5 : w.cell? ⟨g, 5, none⟩ = some (.slice va vn vc)
  c6 : w.cell? ⟨g, 6, none⟩ = some (.string sp)
  c7 : w.cell? ⟨g, 7, none⟩ = some (.string nm)
  c8 : w.cell? ⟨g, 8, none⟩ = some (.int .i64 nu)
  c9 : w.cell? ⟨g, 9, none⟩ = some (.int .i64 b)
  c10 : w.cell? ⟨g, 10, none⟩ = some (.int .i64 ti)
  c11 : w.cell? ⟨g, 11, none⟩ = some (.slice pa pn pc)
theorem Row.cm' {w : World} {g : Nat} {t : TypeId} {cl sq kd id ep : Int} {va : Option Addr} {vn vc : Nat} {sp nm : ByteArray} {nu b ti : Int} {pa : Option Addr} {pn pc : Nat} (h : Row w g t (cmC cl sq kd id ep va vn vc sp nm nu b ti pa pn pc)) : D12 w g cl sq kd id ep va vn vc sp nm nu b ti pa pn pc := by
  refine ⟨?_, ?_, ?_, ?_, ?_, ?_, ?_, ?_, ?_, ?_, ?_, ?_⟩ <;> (rw [h.cellV]; rfl)
@[reducible] def cvE : El Cv := ⟨28, 60, 3, 32, .agg #[.int .i64 0, .int .i64 0, .string ⟨#[]⟩], Cv.cells, fun _ c => c.fit⟩
theorem cvOk : cvE.Ok Try.prog where
  und := Try.underlying28
  info := by kernel_rfl
  zs := rfl
  pos := by decide
  len := fun _ => rfl
  one := fun s v hv => by simp [Cv.cells] at hv; rcases hv with rfl | rfl | rfl <;> rfl
  mono := fun _ _ _ h _ => h
  small := by decide
theorem cv_getD {L : List Cv} {i : Nat} {x : Cv} (h : L[i]? = some x) : L.getD i default = x := by simp [List.getD_eq_getElem?_getD, h]
theorem Ls.cvs {w : World} {a : Option Addr} {n c : Nat} {L : List Cv} (h : Ls cvE w a n c L) : Cvs w a n c L := by
  refine ⟨h.hlen, h.hle, h.hmax, h.hfit, h.hnil, ?_⟩
  rcases h.hcells with h0 | ⟨b, off, rfl, hlt, hc⟩
  · exact .inl h0
  · refine .inr ⟨b, off, rfl, hlt, fun i hi j v hj => ?_⟩
    have hx : L[i]? = some (L.getD i default) := by
      have hk : i < L.length := by rw [h.hlen]; exact hi
      simp [List.getD_eq_getElem?_getD, hk]
    exact hc i _ hx j v hj
theorem Cvs.ls {w : World} {a : Option Addr} {n c : Nat} {L : List Cv} (h : Cvs w a n c L) : Ls cvE w a n c L := by
  refine ⟨h.hlen, h.hle, h.hmax, h.hfit, h.hnil, ?_⟩
  rcases h.hcells with h0 | ⟨b, off, rfl, hlt, hc⟩
  · exact .inl h0
  · refine .inr ⟨b, off, rfl, hlt, fun i x hx j v hj => ?_⟩
    have hk : i < n := by rw [← h.hlen]; exact (List.getElem?_eq_some_iff.1 hx).1
    exact hc i hk j v (by rw [cv_getD hx]; exact hj)
theorem okc_next (L : List Cv) (k : Nat) (x : Cv) (h : L[k]? = some x) : (L.take (k + 1)).all Cv.ok = ((L.take k).all Cv.ok && x.ok) := by
  obtain ⟨h1, h2⟩ := List.getElem?_eq_some_iff.1 h
  rw [List.take_succ_eq_append_getElem h1, List.all_append, h2]; simp
theorem okc_bad (L : List Cv) (k : Nat) (x : Cv) (h : L[k]? = some x) (hx : x.ok = false) : L.all Cv.ok = false := by
  obtain ⟨h1, h2⟩ := List.getElem?_eq_some_iff.1 h
  rw [List.all_eq_false]
  exact ⟨x, by rw [← h2]; exact List.getElem_mem _, by simp [hx]⟩
theorem cvC (b o k : Nat) (w : World) (x : Cv) (hc : ∀ j v, (cvE.cells x)[j]? = some v → w.cell? ⟨b, o + k * cvE.k + j, none⟩ = some v) :
    w.cell? ⟨b, o + k * 3, none⟩ = some (.int .i64 x.kind) ∧ w.cell? ⟨b, o + k * 3 + 1, none⟩ = some (.int .i64 x.num) ∧ w.cell? ⟨b, o + k * 3 + 2, none⟩ = some (.string x.name) := ⟨hc 0 _ rfl, hc 1 _ rfl, hc 2 _ rfl⟩
end Go.Proofs.Ytkmdbdieloimiaa.W
