/- LAYER 23 (command): a request, and the command that it asks for. -/
import Derived.Test.YtmacjpgeamlmhaaCmI
import Derived.Test.YtmacjpgeamlmhaaCmN
import Derived.Test.YtmacjpgeamlmhaaTokO
import Derived.Test.YtmacjpgeamlmhaaMfPk
import Derived.Test.YtmacjpgeamlmhaaRun
import Derived.Test.YtmacjpgeamlmhaaSt
set_option linter.unusedSimpArgs false
set_option linter.unusedVariables false
namespace Go.Proofs.Ytmacjpgeamlmhaa.W
open Go Go.ChangeShapes Go.WideShapes Go.ChangeAt Go.RowKit
open Go.Proofs.Ytmacjpgeamlmhaa.S

structure RqX where
  ln : Int
  cl : Int
  sq : Int
  kd : Int
  tl : Int
  id : Int
  ep : Int
  va : Option Addr
  vn : Nat
  vc : Nat
  tg : ByteArray
  sp : ByteArray
  nm : ByteArray
  nu : Int
  by' : Int
  ti : Int
  pa : Option Addr
  pn : Nat
  pc : Nat
  da : Option Addr
  dn : Nat
  dc : Nat
  tk : ByteArray
  V : List Cv
  P : List Pc
@[reducible] def rqC (ln cl sq kd tl id ep : Int) (va : Option Addr) (vn vc : Nat) (tg sp nm : ByteArray) (nu b ti : Int) (pa : Option Addr) (pn pc : Nat) (da : Option Addr) (dn dc : Nat) (tk : ByteArray) : List Value :=
  [.int .i64 ln, .int .i64 cl, .int .i64 sq, .int .i64 kd, .int .i64 tl, .int .i64 id, .int .i64 ep, .slice va vn vc, .string tg, .string sp, .string nm, .int .i64 nu, .int .i64 b, .int .i64 ti, .slice pa pn pc, .slice da dn dc, .string tk]
@[reducible] def RqX.cells (x : RqX) : List Value := rqC x.ln x.cl x.sq x.kd x.tl x.id x.ep x.va x.vn x.vc x.tg x.sp x.nm x.nu x.by' x.ti x.pa x.pn x.pc x.da x.dn x.dc x.tk
@[reducible] def RqX.val (x : RqX) : Value := .agg x.cells.toArray
def RqX.m (x : RqX) : Cm := ⟨x.cl, x.sq, x.kd, x.id, x.ep, x.V, x.sp, x.nm, x.nu, x.by', x.ti, x.P⟩
structure RqX.fit (w : World) (x : RqX) : Prop where
  cl : SI64 x.cl
  sq : SI64 x.sq
  kd : SI64 x.kd
  id : SI64 x.id
  ep : SI64 x.ep
  V : Cvs w x.va x.vn x.vc x.V
  sp : x.sp.size ≤ maxLen
  nm : x.nm.size ≤ maxLen
  nu : SI64 x.nu
  by' : SI64 x.by'
  ti : SI64 x.ti
  P : Ls pcE w x.pa x.pn x.pc x.P
theorem RqX.fit.mono {w w' : World} {x : RqX} (h : x.fit w) (hb : Below w.heap.size w w') : x.fit w' :=
  ⟨h.cl, h.sq, h.kd, h.id, h.ep, h.V.mono hb, h.sp, h.nm, h.nu, h.by', h.ti, h.P.mono pcOk hb⟩
theorem rq_size : (Try.prog.info? 48).map (·.size) = some 17 := by kernel_rfl
structure R17 (w : World) (g : Nat) (x : RqX) : Prop where
  c0 : w.cell? ⟨g, 0, none⟩ = some (.int .i64 x.ln)
  c1 : w.cell? ⟨g, 1, none⟩ = some (.int .i64 x.cl)
  c2 : w.cell? ⟨g, 2, none⟩ = some (.int .i64 x.sq)
  c3 : w.cell? ⟨g, 3, none⟩ = some (.int .i64 x.kd)
  c4 : w.cell? ⟨g, 4, none⟩ = some (.int .i64 x.tl)
  c5 : w.cell? ⟨g, 5, none⟩ = some (.int .i64 x.id)
  c6 : w.cell? ⟨g, 6, none⟩ = some (.int .i64 x.ep)
  c7 : w.cell? ⟨g, 7, none⟩ = some (.slice x.va x.vn x.vc)
  c8 : w.cell? ⟨g, 8, none⟩ = some (.string x.tg)
  c9 : w.cell? ⟨g, 9, none⟩ = some (.string x.sp)
  c10 : w.cell? ⟨g, 10, none⟩ = some (.string x.nm)
  c11 : w.cell? ⟨g, 11, none⟩ = some (.int .i64 x.nu)
  c12 : w.cell? ⟨g, 12, none⟩ = some (.int .i64 x.by')
  c13 : w.cell? ⟨g, 13, none⟩ = some (.int .i64 x.ti)
  c14 : w.cell? ⟨g, 14, none⟩ = some (.slice x.pa x.pn x.pc)
  c15 : w.cell? ⟨g, 15, none⟩ = some (.slice x.da x.dn x.dc)
  c16 : w.cell? ⟨g, 16, none⟩ = some (.string x.tk)
theorem Row.rq {w : World} {g : Nat} {t : TypeId} {x : RqX} (h : Row w g t x.cells) : R17 w g x := by
  refine ⟨?_, ?_, ?_, ?_, ?_, ?_, ?_, ?_, ?_, ?_, ?_, ?_, ?_, ?_, ?_, ?_, ?_⟩ <;> (rw [h.cellV]; rfl)
section
variable {H : Type} {enc : TypeId × Value → H} {w : World} {base : Nat} {held : Bool}
set_option maxRecDepth 100000 in
set_option maxHeartbeats 4000000 in
theorem rq_cells {fuel : Nat} {cs : List Value} {x : DataW H × List MemPlace} (h : DataW.trod enc Try.prog w base (fun _ => true) held fuel 48 cs = some x) : ∃ y : RqX, cs = y.cells ∧ y.fit w := by
  obtain ⟨xs, n, hn, rfl, hl, hlen, hf⟩ := DataW.trod_struct Try.underlying48 h
  have hcl : Try.prog.cellsOf 48 = 17 := by kernel_rfl
  rw [hcl] at hl
  have f0 := hf 0 _ rfl
  have f1 := hf 1 _ rfl
  have f2 := hf 2 _ rfl
  have f3 := hf 3 _ rfl
  have f4 := hf 4 _ rfl
  have f5 := hf 5 _ rfl
  have f6 := hf 6 _ rfl
  have f7 := hf 7 _ rfl
  have f8 := hf 8 _ rfl
  have f9 := hf 9 _ rfl
  have f10 := hf 10 _ rfl
  have f11 := hf 11 _ rfl
  have f12 := hf 12 _ rfl
  match cs, hl with
  | [v0, v1, v2, v3, v4, v5, v6, v7, v8, v9, v10, v11, v12, v13, v14, v15, v16], _ =>
    have c1 : Try.prog.cellsOf 3 = 1 := by kernel_rfl
    have c2 : Try.prog.cellsOf 9 = 1 := by kernel_rfl
    have c5 : Try.prog.cellsOf 46 = 5 := by kernel_rfl
    have c4 : Try.prog.cellsOf 23 = 1 := by kernel_rfl
    have c6 : Try.prog.cellsOf 26 = 1 := by kernel_rfl
    match xs, hlen with
    | [x0, x1, x2, x3, x4, x5, x6, x7, x8, x9, x10, x11, x12], _ =>
    simp [c1] at f0
    simp [c1] at f1
    simp [c1] at f2
    simp [c1] at f3
    simp [c1, c5] at f4
    simp [c1, c2, c5] at f5
    simp [c1, c2, c5] at f6
    simp [c1, c2, c5] at f7
    simp [c1, c2, c5] at f8
    simp [c1, c2, c5] at f9
    simp [c1, c2, c4, c5] at f10
    simp [c1, c2, c4, c5, c6] at f11
    simp [c1, c2, c4, c5, c6] at f12
    obtain ⟨n0, e0, -, w0⟩ := DataW.trod_int Try.underlying3 f0
    obtain ⟨n1, e1, -, w1⟩ := DataW.trod_int Try.underlying3 f1
    obtain ⟨n2, e2, -, w2⟩ := DataW.trod_int Try.underlying3 f2
    obtain ⟨n3, e3, -, w3⟩ := DataW.trod_int Try.underlying3 f3
    obtain ⟨t, e4, ht, V, hV⟩ := tk_cells f4
    obtain ⟨n5, e5, -, w5⟩ := DataW.trod_string Try.underlying9 f5
    obtain ⟨n6, e6, -, w6⟩ := DataW.trod_string Try.underlying9 f6
    obtain ⟨n7, e7, -, w7⟩ := DataW.trod_int Try.underlying3 f7
    obtain ⟨n8, e8, -, w8⟩ := DataW.trod_int Try.underlying3 f8
    obtain ⟨n9, e9, -, w9⟩ := DataW.trod_int Try.underlying3 f9
    obtain ⟨pa, pn, pc, PL, e10, hP⟩ := ls_cells pcOk (by kernel_rfl) (fun hx => pc_cells hx) f10
    obtain ⟨da, dn, dc, e11⟩ : ∃ a ln cp, v15 = .slice a ln cp := by
      rcases Go.Deep.open_slice Try.underlying26 f11 with ⟨hcs, -⟩ | ⟨x, len', cap', m, n', D, P0, hcs, -⟩
      · exact ⟨_, _, _, by simpa using hcs⟩
      · exact ⟨_, _, _, by simpa using hcs⟩
    obtain ⟨n12, e12, -, w12⟩ := DataW.trod_string Try.underlying9 f12
    simp [Tk.cells] at e0 e1 e2 e3 e4 e5 e6 e7 e8 e9 e10 e11 e12
    obtain ⟨t0, t1, t2, t3, t4⟩ := e4
    obtain ⟨h0, h1, h2, h3⟩ := ht
    exact ⟨⟨n0, n1, n2, n3, t.lane, t.id, t.epoch, t.a, t.n, t.c, t.g, n5, n6, n7, n8, n9, pa, pn, pc, da, dn, dc, n12, V, PL⟩, by simp [RqX.cells, rqC, e0, e1, e2, e3, e5, e6, e7, e8, e9, e10, e11, e12, t0, t1, t2, t3, t4], ⟨bd w1, bd w2, bd w3, h1, h2, hV, w5, w6, bd w7, bd w8, bd w9, hP⟩⟩
set_option maxRecDepth 100000 in
theorem rq_open {base' : Nat} {v : Value} {d : DataW H} {pl : List MemPlace} (hv : Value.okWide Try.prog w .any base' 48 v) (h : DataW.Trod enc Try.prog w base (fun _ => true) held 48 v d pl) : ∃ x : RqX, v = x.val ∧ x.fit w := by
  obtain ⟨fuel, hf⟩ := h
  obtain ⟨c, hc, hfit⟩ := rq_cells hf
  obtain ⟨cs, rfl, -⟩ := okWide_struct Try.underlying48 hv
  refine ⟨c, ?_, hfit⟩
  simp [Value.cells] at hc
  unfold RqX.val
  congr 1
  apply Array.ext'
  rw [hc]
end
theorem cm_built (cl sq kd id ep : Int) (va : Option Addr) (vn vc : Nat) (sp nm : ByteArray) (nu b ti : Int) (pa : Option Addr) (pn pc : Nat) : Try.prog.built 25 [(0, .int .i64 cl), (1, .int .i64 sq), (2, .int .i64 kd), (3, .int .i64 id), (4, .int .i64 ep), (5, .slice va vn vc), (6, .string sp), (7, .string nm), (8, .int .i64 nu), (9, .int .i64 b), (10, .int .i64 ti), (11, .slice pa pn pc)] = some (cmC cl sq kd id ep va vn vc sp nm nu b ti pa pn pc).toArray := by kernel_rfl
theorem cvclone (a : Option Addr) (n c : Nat) (L : List Cv) (w : World) (h : Cvs w a n c L) (hn : n ≤ 1000) :
    Calls Try.prog 24 #[.slice a n c] w fun x w' => ∃ a' c', x = .returned (.slice a' n c') ∧ LsO cvE w' w.heap.size (.slice a' n c') L ∧ Below w.heap.size w w' := by
  refine (clone_cv a n c L w h (by omega)).mono ?_
  rintro x w' ⟨v, rfl, hf, hb⟩
  obtain ⟨a2, c2, rfl, -⟩ := lso_form (n := n) (show LsO cvE w' w.heap.size v L from hf) h.hlen
  exact ⟨a2, c2, rfl, hf, hb⟩
set_option maxRecDepth 100000 in
set_option maxHeartbeats 16000000 in
theorem cmof (x : RqX) (w : World) (h : x.fit w) (hv : x.vn ≤ 1000) (hp : x.pn ≤ 1000) : Calls Try.prog 26 #[.agg x.cells.toArray] w fun z w' => ∃ va vc pa pc, z = .returned (.agg (cmC x.cl x.sq x.kd x.id x.ep va x.vn vc x.sp x.nm x.nu x.by' x.ti pa x.pn pc).toArray) ∧ LsO cvE w' w.heap.size (.slice va x.vn vc) x.V ∧ LsO pcE w' w.heap.size (.slice pa x.pn pc) x.P ∧ Below w.heap.size w w' := by
  obtain ⟨ln, cl, sq, kd, tl, id, ep, va, vn, vc, tg, sp, nm, nu, by1, ti, pa, pn, pc, da, dn, dc, tk, V, PL⟩ := x
  have hV := h.V
  have hP := h.P
  dsimp only at hV hP hv hp ⊢
  have HV := Lib.hid (fun w' (hb : Below w.heap.size w w') => cvclone va vn vc V w' (hV.mono hb) hv)
  have HP := Lib.hid (fun w' (hb : Below w.heap.size w w') => pcclone pa pn pc PL w' (hP.mono pcOk hb) hp)
  have CZZ := Lib.hid cm_zero
  have CZ := Lib.hid cm_size
  clear h hV hP hv hp
  go_enter Try.func26, Try.ntmps26
  go_wp2_with (first
    | ((with_reducible refine box_row (o := ⟨some 1, _, _, _, _, _⟩) rfl _ _ rfl (rqC ln cl sq kd tl id ep va vn vc tg sp nm nu by1 ti pa pn pc da dn dc tk) rfl ?_); intro w1 hr hb hz; have X1 := Lib.hid hr; have B1 := Lib.hid hb; clear hr hb hz)
    | ((with_reducible refine alloc_row (o := ⟨some 2, _, _, _, _, _⟩) rfl _ rfl _ CZZ.out ?_); intro w2 hr hb hz; have E2 := Lib.hid hr; have X2 := Lib.hid (X1.out.below hb X1.out.lt); have B2 := Lib.hid (B1.out.trans (hb.mono B1.out.size)); clear hr hb hz))
  obtain ⟨C0, C1, C2, C3, C4, C5, C6, C7, C8, C9, C10, C11, C12, C13, C14, C15, C16⟩ := Row.rq (x := ⟨ln, cl, sq, kd, tl, id, ep, va, vn, vc, tg, sp, nm, nu, by1, ti, pa, pn, pc, da, dn, dc, tk, V, PL⟩) X2.out
  dsimp only at C1 C2 C3 C5 C6 C7 C9 C10 C11 C12 C13 C14
  have C1 := Lib.hid C1
  have C2 := Lib.hid C2
  have C3 := Lib.hid C3
  have C5 := Lib.hid C5
  have C6 := Lib.hid C6
  have C7 := Lib.hid C7
  have C9 := Lib.hid C9
  have C10 := Lib.hid C10
  have C11 := Lib.hid C11
  have C12 := Lib.hid C12
  have C13 := Lib.hid C13
  have C14 := Lib.hid C14
  clear C0 C4 C8 C15 C16
  refine region_t (fun v => Below w2.heap.size w2 v) 30 (by kernel_rfl) (by kernel_rfl) (by kernel_rfl) (Below.refl _ _).drew ?_
  obtain ⟨d0, hd0⟩ : ∃ wd, w2.drew = wd := ⟨_, rfl⟩
  have J0 : Hid (Below w2.heap.size w2 d0) := Lib.hid (by rw [← hd0]; exact (Below.refl _ _).drew)
  rw [hd0]
  clear hd0
  (refine t_read 0 rfl (by kernel_rfl) (by kernel_rfl) (by kernel_rfl) (t_free rfl) ?_ ?_ ?_; rotate_left; (focus (intro v hv; go_simp; rfl)); go_simp)
  (refine t_read 1 rfl (by kernel_rfl) (by kernel_rfl) (by kernel_rfl) (t_free rfl) ?_ ?_ ?_; rotate_left; (focus (intro v hv; have x1 := (hv.cell (p := ⟨w.heap.size, 1, none⟩) X2.out.lt).trans C1.out; have x2 := (hv.cell (p := ⟨w.heap.size, 2, none⟩) X2.out.lt).trans C2.out; have x3 := (hv.cell (p := ⟨w.heap.size, 3, none⟩) X2.out.lt).trans C3.out; have x5 := (hv.cell (p := ⟨w.heap.size, 5, none⟩) X2.out.lt).trans C5.out; have x6 := (hv.cell (p := ⟨w.heap.size, 6, none⟩) X2.out.lt).trans C6.out; have x7 := (hv.cell (p := ⟨w.heap.size, 7, none⟩) X2.out.lt).trans C7.out; have x9 := (hv.cell (p := ⟨w.heap.size, 9, none⟩) X2.out.lt).trans C9.out; have x10 := (hv.cell (p := ⟨w.heap.size, 10, none⟩) X2.out.lt).trans C10.out; have x11 := (hv.cell (p := ⟨w.heap.size, 11, none⟩) X2.out.lt).trans C11.out; have x12 := (hv.cell (p := ⟨w.heap.size, 12, none⟩) X2.out.lt).trans C12.out; have x13 := (hv.cell (p := ⟨w.heap.size, 13, none⟩) X2.out.lt).trans C13.out; have x14 := (hv.cell (p := ⟨w.heap.size, 14, none⟩) X2.out.lt).trans C14.out; go_simp; rfl)); go_simp)
  (refine t_read 2 rfl (by kernel_rfl) (by kernel_rfl) (by kernel_rfl) (t_free rfl) ?_ ?_ ?_; rotate_left; (focus (intro v hv; go_simp; rfl)); go_simp)
  (refine t_read 3 rfl (by kernel_rfl) (by kernel_rfl) (by kernel_rfl) (t_free rfl) ?_ ?_ ?_; rotate_left; (focus (intro v hv; have x1 := (hv.cell (p := ⟨w.heap.size, 1, none⟩) X2.out.lt).trans C1.out; have x2 := (hv.cell (p := ⟨w.heap.size, 2, none⟩) X2.out.lt).trans C2.out; have x3 := (hv.cell (p := ⟨w.heap.size, 3, none⟩) X2.out.lt).trans C3.out; have x5 := (hv.cell (p := ⟨w.heap.size, 5, none⟩) X2.out.lt).trans C5.out; have x6 := (hv.cell (p := ⟨w.heap.size, 6, none⟩) X2.out.lt).trans C6.out; have x7 := (hv.cell (p := ⟨w.heap.size, 7, none⟩) X2.out.lt).trans C7.out; have x9 := (hv.cell (p := ⟨w.heap.size, 9, none⟩) X2.out.lt).trans C9.out; have x10 := (hv.cell (p := ⟨w.heap.size, 10, none⟩) X2.out.lt).trans C10.out; have x11 := (hv.cell (p := ⟨w.heap.size, 11, none⟩) X2.out.lt).trans C11.out; have x12 := (hv.cell (p := ⟨w.heap.size, 12, none⟩) X2.out.lt).trans C12.out; have x13 := (hv.cell (p := ⟨w.heap.size, 13, none⟩) X2.out.lt).trans C13.out; have x14 := (hv.cell (p := ⟨w.heap.size, 14, none⟩) X2.out.lt).trans C14.out; go_simp; rfl)); go_simp)
  (refine t_read 4 rfl (by kernel_rfl) (by kernel_rfl) (by kernel_rfl) (t_free rfl) ?_ ?_ ?_; rotate_left; (focus (intro v hv; go_simp; rfl)); go_simp)
  (refine t_read 5 rfl (by kernel_rfl) (by kernel_rfl) (by kernel_rfl) (t_free rfl) ?_ ?_ ?_; rotate_left; (focus (intro v hv; have x1 := (hv.cell (p := ⟨w.heap.size, 1, none⟩) X2.out.lt).trans C1.out; have x2 := (hv.cell (p := ⟨w.heap.size, 2, none⟩) X2.out.lt).trans C2.out; have x3 := (hv.cell (p := ⟨w.heap.size, 3, none⟩) X2.out.lt).trans C3.out; have x5 := (hv.cell (p := ⟨w.heap.size, 5, none⟩) X2.out.lt).trans C5.out; have x6 := (hv.cell (p := ⟨w.heap.size, 6, none⟩) X2.out.lt).trans C6.out; have x7 := (hv.cell (p := ⟨w.heap.size, 7, none⟩) X2.out.lt).trans C7.out; have x9 := (hv.cell (p := ⟨w.heap.size, 9, none⟩) X2.out.lt).trans C9.out; have x10 := (hv.cell (p := ⟨w.heap.size, 10, none⟩) X2.out.lt).trans C10.out; have x11 := (hv.cell (p := ⟨w.heap.size, 11, none⟩) X2.out.lt).trans C11.out; have x12 := (hv.cell (p := ⟨w.heap.size, 12, none⟩) X2.out.lt).trans C12.out; have x13 := (hv.cell (p := ⟨w.heap.size, 13, none⟩) X2.out.lt).trans C13.out; have x14 := (hv.cell (p := ⟨w.heap.size, 14, none⟩) X2.out.lt).trans C14.out; go_simp; rfl)); go_simp)
  (refine t_read 6 rfl (by kernel_rfl) (by kernel_rfl) (by kernel_rfl) (t_free rfl) ?_ ?_ ?_; rotate_left; (focus (intro v hv; go_simp; rfl)); go_simp)
  (refine t_read 7 rfl (by kernel_rfl) (by kernel_rfl) (by kernel_rfl) (t_free rfl) ?_ ?_ ?_; rotate_left; (focus (intro v hv; go_simp; rfl)); go_simp)
  (refine t_read 8 rfl (by kernel_rfl) (by kernel_rfl) (by kernel_rfl) (t_free rfl) ?_ ?_ ?_; rotate_left; (focus (intro v hv; have x1 := (hv.cell (p := ⟨w.heap.size, 1, none⟩) X2.out.lt).trans C1.out; have x2 := (hv.cell (p := ⟨w.heap.size, 2, none⟩) X2.out.lt).trans C2.out; have x3 := (hv.cell (p := ⟨w.heap.size, 3, none⟩) X2.out.lt).trans C3.out; have x5 := (hv.cell (p := ⟨w.heap.size, 5, none⟩) X2.out.lt).trans C5.out; have x6 := (hv.cell (p := ⟨w.heap.size, 6, none⟩) X2.out.lt).trans C6.out; have x7 := (hv.cell (p := ⟨w.heap.size, 7, none⟩) X2.out.lt).trans C7.out; have x9 := (hv.cell (p := ⟨w.heap.size, 9, none⟩) X2.out.lt).trans C9.out; have x10 := (hv.cell (p := ⟨w.heap.size, 10, none⟩) X2.out.lt).trans C10.out; have x11 := (hv.cell (p := ⟨w.heap.size, 11, none⟩) X2.out.lt).trans C11.out; have x12 := (hv.cell (p := ⟨w.heap.size, 12, none⟩) X2.out.lt).trans C12.out; have x13 := (hv.cell (p := ⟨w.heap.size, 13, none⟩) X2.out.lt).trans C13.out; have x14 := (hv.cell (p := ⟨w.heap.size, 14, none⟩) X2.out.lt).trans C14.out; go_simp; rfl)); go_simp)
  (refine t_read 9 rfl (by kernel_rfl) (by kernel_rfl) (by kernel_rfl) (t_free rfl) ?_ ?_ ?_; rotate_left; (focus (intro v hv; go_simp; rfl)); go_simp)
  (refine t_read 10 rfl (by kernel_rfl) (by kernel_rfl) (by kernel_rfl) (t_free rfl) ?_ ?_ ?_; rotate_left; (focus (intro v hv; go_simp; rfl)); go_simp)
  (refine t_read 11 rfl (by kernel_rfl) (by kernel_rfl) (by kernel_rfl) (t_free rfl) ?_ ?_ ?_; rotate_left; (focus (intro v hv; have x1 := (hv.cell (p := ⟨w.heap.size, 1, none⟩) X2.out.lt).trans C1.out; have x2 := (hv.cell (p := ⟨w.heap.size, 2, none⟩) X2.out.lt).trans C2.out; have x3 := (hv.cell (p := ⟨w.heap.size, 3, none⟩) X2.out.lt).trans C3.out; have x5 := (hv.cell (p := ⟨w.heap.size, 5, none⟩) X2.out.lt).trans C5.out; have x6 := (hv.cell (p := ⟨w.heap.size, 6, none⟩) X2.out.lt).trans C6.out; have x7 := (hv.cell (p := ⟨w.heap.size, 7, none⟩) X2.out.lt).trans C7.out; have x9 := (hv.cell (p := ⟨w.heap.size, 9, none⟩) X2.out.lt).trans C9.out; have x10 := (hv.cell (p := ⟨w.heap.size, 10, none⟩) X2.out.lt).trans C10.out; have x11 := (hv.cell (p := ⟨w.heap.size, 11, none⟩) X2.out.lt).trans C11.out; have x12 := (hv.cell (p := ⟨w.heap.size, 12, none⟩) X2.out.lt).trans C12.out; have x13 := (hv.cell (p := ⟨w.heap.size, 13, none⟩) X2.out.lt).trans C13.out; have x14 := (hv.cell (p := ⟨w.heap.size, 14, none⟩) X2.out.lt).trans C14.out; go_simp; rfl)); go_simp)
  (refine t_read 12 rfl (by kernel_rfl) (by kernel_rfl) (by kernel_rfl) (t_free rfl) ?_ ?_ ?_; rotate_left; (focus (intro v hv; go_simp; rfl)); go_simp)
  (refine t_read 13 rfl (by kernel_rfl) (by kernel_rfl) (by kernel_rfl) (t_free rfl) ?_ ?_ ?_; rotate_left; (focus (intro v hv; go_simp; rfl)); go_simp)
  (refine t_read 14 rfl (by kernel_rfl) (by kernel_rfl) (by kernel_rfl) (t_free rfl) ?_ ?_ ?_; rotate_left; (focus (intro v hv; have x1 := (hv.cell (p := ⟨w.heap.size, 1, none⟩) X2.out.lt).trans C1.out; have x2 := (hv.cell (p := ⟨w.heap.size, 2, none⟩) X2.out.lt).trans C2.out; have x3 := (hv.cell (p := ⟨w.heap.size, 3, none⟩) X2.out.lt).trans C3.out; have x5 := (hv.cell (p := ⟨w.heap.size, 5, none⟩) X2.out.lt).trans C5.out; have x6 := (hv.cell (p := ⟨w.heap.size, 6, none⟩) X2.out.lt).trans C6.out; have x7 := (hv.cell (p := ⟨w.heap.size, 7, none⟩) X2.out.lt).trans C7.out; have x9 := (hv.cell (p := ⟨w.heap.size, 9, none⟩) X2.out.lt).trans C9.out; have x10 := (hv.cell (p := ⟨w.heap.size, 10, none⟩) X2.out.lt).trans C10.out; have x11 := (hv.cell (p := ⟨w.heap.size, 11, none⟩) X2.out.lt).trans C11.out; have x12 := (hv.cell (p := ⟨w.heap.size, 12, none⟩) X2.out.lt).trans C12.out; have x13 := (hv.cell (p := ⟨w.heap.size, 13, none⟩) X2.out.lt).trans C13.out; have x14 := (hv.cell (p := ⟨w.heap.size, 14, none⟩) X2.out.lt).trans C14.out; go_simp; rfl)); go_simp)
  (refine t_read 16 rfl (by kernel_rfl) (by kernel_rfl) (by kernel_rfl) (t_free rfl) ?_ ?_ ?_; rotate_left; (focus (intro v hv; go_simp; rfl)); go_simp)
  (refine t_read 17 rfl (by kernel_rfl) (by kernel_rfl) (by kernel_rfl) (t_free rfl) ?_ ?_ ?_; rotate_left; (focus (intro v hv; have x1 := (hv.cell (p := ⟨w.heap.size, 1, none⟩) X2.out.lt).trans C1.out; have x2 := (hv.cell (p := ⟨w.heap.size, 2, none⟩) X2.out.lt).trans C2.out; have x3 := (hv.cell (p := ⟨w.heap.size, 3, none⟩) X2.out.lt).trans C3.out; have x5 := (hv.cell (p := ⟨w.heap.size, 5, none⟩) X2.out.lt).trans C5.out; have x6 := (hv.cell (p := ⟨w.heap.size, 6, none⟩) X2.out.lt).trans C6.out; have x7 := (hv.cell (p := ⟨w.heap.size, 7, none⟩) X2.out.lt).trans C7.out; have x9 := (hv.cell (p := ⟨w.heap.size, 9, none⟩) X2.out.lt).trans C9.out; have x10 := (hv.cell (p := ⟨w.heap.size, 10, none⟩) X2.out.lt).trans C10.out; have x11 := (hv.cell (p := ⟨w.heap.size, 11, none⟩) X2.out.lt).trans C11.out; have x12 := (hv.cell (p := ⟨w.heap.size, 12, none⟩) X2.out.lt).trans C12.out; have x13 := (hv.cell (p := ⟨w.heap.size, 13, none⟩) X2.out.lt).trans C13.out; have x14 := (hv.cell (p := ⟨w.heap.size, 14, none⟩) X2.out.lt).trans C14.out; go_simp; rfl)); go_simp)
  (refine t_read 18 rfl (by kernel_rfl) (by kernel_rfl) (by kernel_rfl) (t_free rfl) ?_ ?_ ?_; rotate_left; (focus (intro v hv; go_simp; rfl)); go_simp)
  (refine t_read 19 rfl (by kernel_rfl) (by kernel_rfl) (by kernel_rfl) (t_free rfl) ?_ ?_ ?_; rotate_left; (focus (intro v hv; have x1 := (hv.cell (p := ⟨w.heap.size, 1, none⟩) X2.out.lt).trans C1.out; have x2 := (hv.cell (p := ⟨w.heap.size, 2, none⟩) X2.out.lt).trans C2.out; have x3 := (hv.cell (p := ⟨w.heap.size, 3, none⟩) X2.out.lt).trans C3.out; have x5 := (hv.cell (p := ⟨w.heap.size, 5, none⟩) X2.out.lt).trans C5.out; have x6 := (hv.cell (p := ⟨w.heap.size, 6, none⟩) X2.out.lt).trans C6.out; have x7 := (hv.cell (p := ⟨w.heap.size, 7, none⟩) X2.out.lt).trans C7.out; have x9 := (hv.cell (p := ⟨w.heap.size, 9, none⟩) X2.out.lt).trans C9.out; have x10 := (hv.cell (p := ⟨w.heap.size, 10, none⟩) X2.out.lt).trans C10.out; have x11 := (hv.cell (p := ⟨w.heap.size, 11, none⟩) X2.out.lt).trans C11.out; have x12 := (hv.cell (p := ⟨w.heap.size, 12, none⟩) X2.out.lt).trans C12.out; have x13 := (hv.cell (p := ⟨w.heap.size, 13, none⟩) X2.out.lt).trans C13.out; have x14 := (hv.cell (p := ⟨w.heap.size, 14, none⟩) X2.out.lt).trans C14.out; go_simp; rfl)); go_simp)
  (refine t_read 20 rfl (by kernel_rfl) (by kernel_rfl) (by kernel_rfl) (t_free rfl) ?_ ?_ ?_; rotate_left; (focus (intro v hv; go_simp; rfl)); go_simp)
  (refine t_read 21 rfl (by kernel_rfl) (by kernel_rfl) (by kernel_rfl) (t_free rfl) ?_ ?_ ?_; rotate_left; (focus (intro v hv; have x1 := (hv.cell (p := ⟨w.heap.size, 1, none⟩) X2.out.lt).trans C1.out; have x2 := (hv.cell (p := ⟨w.heap.size, 2, none⟩) X2.out.lt).trans C2.out; have x3 := (hv.cell (p := ⟨w.heap.size, 3, none⟩) X2.out.lt).trans C3.out; have x5 := (hv.cell (p := ⟨w.heap.size, 5, none⟩) X2.out.lt).trans C5.out; have x6 := (hv.cell (p := ⟨w.heap.size, 6, none⟩) X2.out.lt).trans C6.out; have x7 := (hv.cell (p := ⟨w.heap.size, 7, none⟩) X2.out.lt).trans C7.out; have x9 := (hv.cell (p := ⟨w.heap.size, 9, none⟩) X2.out.lt).trans C9.out; have x10 := (hv.cell (p := ⟨w.heap.size, 10, none⟩) X2.out.lt).trans C10.out; have x11 := (hv.cell (p := ⟨w.heap.size, 11, none⟩) X2.out.lt).trans C11.out; have x12 := (hv.cell (p := ⟨w.heap.size, 12, none⟩) X2.out.lt).trans C12.out; have x13 := (hv.cell (p := ⟨w.heap.size, 13, none⟩) X2.out.lt).trans C13.out; have x14 := (hv.cell (p := ⟨w.heap.size, 14, none⟩) X2.out.lt).trans C14.out; go_simp; rfl)); go_simp)
  (refine t_read 22 rfl (by kernel_rfl) (by kernel_rfl) (by kernel_rfl) (t_free rfl) ?_ ?_ ?_; rotate_left; (focus (intro v hv; go_simp; rfl)); go_simp)
  (refine t_read 23 rfl (by kernel_rfl) (by kernel_rfl) (by kernel_rfl) (t_free rfl) ?_ ?_ ?_; rotate_left; (focus (intro v hv; have x1 := (hv.cell (p := ⟨w.heap.size, 1, none⟩) X2.out.lt).trans C1.out; have x2 := (hv.cell (p := ⟨w.heap.size, 2, none⟩) X2.out.lt).trans C2.out; have x3 := (hv.cell (p := ⟨w.heap.size, 3, none⟩) X2.out.lt).trans C3.out; have x5 := (hv.cell (p := ⟨w.heap.size, 5, none⟩) X2.out.lt).trans C5.out; have x6 := (hv.cell (p := ⟨w.heap.size, 6, none⟩) X2.out.lt).trans C6.out; have x7 := (hv.cell (p := ⟨w.heap.size, 7, none⟩) X2.out.lt).trans C7.out; have x9 := (hv.cell (p := ⟨w.heap.size, 9, none⟩) X2.out.lt).trans C9.out; have x10 := (hv.cell (p := ⟨w.heap.size, 10, none⟩) X2.out.lt).trans C10.out; have x11 := (hv.cell (p := ⟨w.heap.size, 11, none⟩) X2.out.lt).trans C11.out; have x12 := (hv.cell (p := ⟨w.heap.size, 12, none⟩) X2.out.lt).trans C12.out; have x13 := (hv.cell (p := ⟨w.heap.size, 13, none⟩) X2.out.lt).trans C13.out; have x14 := (hv.cell (p := ⟨w.heap.size, 14, none⟩) X2.out.lt).trans C14.out; go_simp; rfl)); go_simp)
  (refine t_read 24 rfl (by kernel_rfl) (by kernel_rfl) (by kernel_rfl) (t_free rfl) ?_ ?_ ?_; rotate_left; (focus (intro v hv; go_simp; rfl)); go_simp)
  (refine t_read 25 rfl (by kernel_rfl) (by kernel_rfl) (by kernel_rfl) (t_free rfl) ?_ ?_ ?_; rotate_left; (focus (intro v hv; have x1 := (hv.cell (p := ⟨w.heap.size, 1, none⟩) X2.out.lt).trans C1.out; have x2 := (hv.cell (p := ⟨w.heap.size, 2, none⟩) X2.out.lt).trans C2.out; have x3 := (hv.cell (p := ⟨w.heap.size, 3, none⟩) X2.out.lt).trans C3.out; have x5 := (hv.cell (p := ⟨w.heap.size, 5, none⟩) X2.out.lt).trans C5.out; have x6 := (hv.cell (p := ⟨w.heap.size, 6, none⟩) X2.out.lt).trans C6.out; have x7 := (hv.cell (p := ⟨w.heap.size, 7, none⟩) X2.out.lt).trans C7.out; have x9 := (hv.cell (p := ⟨w.heap.size, 9, none⟩) X2.out.lt).trans C9.out; have x10 := (hv.cell (p := ⟨w.heap.size, 10, none⟩) X2.out.lt).trans C10.out; have x11 := (hv.cell (p := ⟨w.heap.size, 11, none⟩) X2.out.lt).trans C11.out; have x12 := (hv.cell (p := ⟨w.heap.size, 12, none⟩) X2.out.lt).trans C12.out; have x13 := (hv.cell (p := ⟨w.heap.size, 13, none⟩) X2.out.lt).trans C13.out; have x14 := (hv.cell (p := ⟨w.heap.size, 14, none⟩) X2.out.lt).trans C14.out; go_simp; rfl)); go_simp)
  (refine t_read 26 rfl (by kernel_rfl) (by kernel_rfl) (by kernel_rfl) (t_free rfl) ?_ ?_ ?_; rotate_left; (focus (intro v hv; go_simp; rfl)); go_simp)
  (refine t_read 27 rfl (by kernel_rfl) (by kernel_rfl) (by kernel_rfl) (t_free rfl) ?_ ?_ ?_; rotate_left; (focus (intro v hv; have x1 := (hv.cell (p := ⟨w.heap.size, 1, none⟩) X2.out.lt).trans C1.out; have x2 := (hv.cell (p := ⟨w.heap.size, 2, none⟩) X2.out.lt).trans C2.out; have x3 := (hv.cell (p := ⟨w.heap.size, 3, none⟩) X2.out.lt).trans C3.out; have x5 := (hv.cell (p := ⟨w.heap.size, 5, none⟩) X2.out.lt).trans C5.out; have x6 := (hv.cell (p := ⟨w.heap.size, 6, none⟩) X2.out.lt).trans C6.out; have x7 := (hv.cell (p := ⟨w.heap.size, 7, none⟩) X2.out.lt).trans C7.out; have x9 := (hv.cell (p := ⟨w.heap.size, 9, none⟩) X2.out.lt).trans C9.out; have x10 := (hv.cell (p := ⟨w.heap.size, 10, none⟩) X2.out.lt).trans C10.out; have x11 := (hv.cell (p := ⟨w.heap.size, 11, none⟩) X2.out.lt).trans C11.out; have x12 := (hv.cell (p := ⟨w.heap.size, 12, none⟩) X2.out.lt).trans C12.out; have x13 := (hv.cell (p := ⟨w.heap.size, 13, none⟩) X2.out.lt).trans C13.out; have x14 := (hv.cell (p := ⟨w.heap.size, 14, none⟩) X2.out.lt).trans C14.out; go_simp; rfl)); go_simp)
  (refine t_call 15 rfl (by kernel_rfl) rfl (t_free rfl) 24 ?_ ?_ ?_; rotate_left; (focus (go_simp; rfl)))
  refine (HV.out d0 (B2.out.trans (J0.out.mono B2.out.size))).mono ?_
  rintro z d1 ⟨va2, vc2, rfl, ho, hb⟩
  have O1 := Lib.hid (ho.base J0.out.size)
  have J1 := Lib.hid (J0.out.trans (hb.mono J0.out.size))
  clear ho hb
  refine ⟨_, rfl, J1.out, ?_⟩
  go_simp
  (refine t_call 28 rfl (by kernel_rfl) rfl (t_free rfl) 25 ?_ ?_ ?_; rotate_left; (focus (go_simp; rfl)))
  refine (HP.out d1 (B2.out.trans (J1.out.mono B2.out.size))).mono ?_
  rintro z d2 ⟨pa2, pc2, rfl, ho, hb⟩
  have Q2 := Lib.hid (ho.base J1.out.size)
  have O2 := Lib.hid (O1.out.kept hb)
  have J2 := Lib.hid (J1.out.trans (hb.mono J1.out.size))
  clear ho hb
  refine ⟨_, rfl, J2.out, ?_⟩
  go_simp
  have qb := cm_built cl sq kd id ep va2 vn vc2 sp nm nu by1 ti pa2 pn pc2
  (refine t_read 29 rfl (by kernel_rfl) (by kernel_rfl) (by kernel_rfl) (t_free rfl) ?_ ?_ ?_; rotate_left; (focus (intro v hv; go_simp; rfl)); go_simp)
  (refine t_last 30 rfl (by kernel_rfl) rfl (by kernel_rfl) (by kernel_rfl) ?_; intro K hK)
  refine store_row rfl _ _ _ rfl w1.heap.size (cmC cl sq kd id ep va2 vn vc2 sp nm nu by1 ti pa2 pn pc2) (by go_simp) (by first | (go_simp; done) | (go_simp; rfl)) 25 _ (E2.out.below J2.out E2.out.lt) CZ.out rfl (cm_one _ _ _ _ _ _ _ _ _ _ _ _ _ _ _ _) ?_
  intro w7 hr hu
  have R7 := Lib.hid hr
  have B7 := Lib.hid ((B2.out.trans (J2.out.mono B2.out.size)).trans (hu.below B1.out.size))
  have O7 := Lib.hid (lso_upd_lt O2.out hu E2.out.lt)
  have Q7 := Lib.hid (lso_upd_lt Q2.out hu E2.out.lt)
  clear hr hu
  refine hK _ _ ?_
  go_simp
  go_wp2_with fail
  exact bodyPost_ret (results_cell_row rfl _ _ w1.heap.size 25 _ _ _ (by go_simp) R7.out Try.underlying25 rfl CZ.out) rfl ⟨va2, vc2, pa2, pc2, rfl, O7.out.base B2.out.size, Q7.out.base B2.out.size, B7.out⟩
set_option maxRecDepth 100000 in
set_option maxHeartbeats 16000000 in
theorem zkof (x : RqX) (w : World) (h : x.fit w) (hv : x.vn ≤ 1000) (hp : x.pn ≤ 1000) : Calls Try.prog 27 #[.agg x.cells.toArray] w fun z w' => ∃ va vc pa pc, z = .returned (.agg (cmC x.cl x.sq x.kd x.id x.ep va x.vn vc x.sp x.nm x.nu x.by' x.ti pa x.pn pc).toArray) ∧ LsO cvE w' w.heap.size (.slice va x.vn vc) x.V ∧ LsO pcE w' w.heap.size (.slice pa x.pn pc) x.P ∧ Below w.heap.size w w' := by
  obtain ⟨ln, cl, sq, kd, tl, id, ep, va, vn, vc, tg, sp, nm, nu, by1, ti, pa, pn, pc, da, dn, dc, tk, V, PL⟩ := x
  have hV := h.V
  have hP := h.P
  dsimp only at hV hP hv hp ⊢
  have HV := Lib.hid hV.ls
  have HP := Lib.hid hP
  have HVL := Lib.hid hV.hlen
  have HPL := Lib.hid hP.hlen
  have HVN := Lib.hid hv
  have HPN := Lib.hid hp
  have CZZ := Lib.hid cm_zero
  have CZ := Lib.hid cm_size
  clear h hV hP hv hp
  go_enter Try.func27, Try.ntmps27
  go_wp2_with (first
    | ((with_reducible refine box_row (o := ⟨some 1, _, _, _, _, _⟩) rfl _ _ rfl (rqC ln cl sq kd tl id ep va vn vc tg sp nm nu by1 ti pa pn pc da dn dc tk) rfl ?_); intro w1 hr hb hz; have X1 := Lib.hid hr; have B1 := Lib.hid hb; clear hr hb hz)
    | ((with_reducible refine alloc_row (o := ⟨some 2, _, _, _, _, _⟩) rfl _ rfl _ CZZ.out ?_); intro w2 hr hb hz; have E2 := Lib.hid hr; have X2 := Lib.hid (X1.out.below hb X1.out.lt); have B2 := Lib.hid (B1.out.trans (hb.mono B1.out.size)); clear hr hb hz))
  obtain ⟨C0, C1, C2, C3, C4, C5, C6, C7, C8, C9, C10, C11, C12, C13, C14, C15, C16⟩ := Row.rq (x := ⟨ln, cl, sq, kd, tl, id, ep, va, vn, vc, tg, sp, nm, nu, by1, ti, pa, pn, pc, da, dn, dc, tk, V, PL⟩) X2.out
  dsimp only at C1 C2 C3 C5 C6 C7 C9 C10 C11 C12 C13 C14
  have C1 := Lib.hid C1
  have C2 := Lib.hid C2
  have C3 := Lib.hid C3
  have C5 := Lib.hid C5
  have C6 := Lib.hid C6
  have C7 := Lib.hid C7
  have C9 := Lib.hid C9
  have C10 := Lib.hid C10
  have C11 := Lib.hid C11
  have C12 := Lib.hid C12
  have C13 := Lib.hid C13
  have C14 := Lib.hid C14
  clear C0 C4 C8 C15 C16
  refine region_t (fun v => Below w2.heap.size w2 v) 30 (by kernel_rfl) (by kernel_rfl) (by kernel_rfl) (Below.refl _ _).drew ?_
  obtain ⟨d0, hd0⟩ : ∃ wd, w2.drew = wd := ⟨_, rfl⟩
  have J0 : Hid (Below w2.heap.size w2 d0) := Lib.hid (by rw [← hd0]; exact (Below.refl _ _).drew)
  rw [hd0]
  clear hd0
  (refine t_read 0 rfl (by kernel_rfl) (by kernel_rfl) (by kernel_rfl) (t_free rfl) ?_ ?_ ?_; rotate_left; (focus (intro v hv; go_simp; rfl)); go_simp)
  (refine t_read 1 rfl (by kernel_rfl) (by kernel_rfl) (by kernel_rfl) (t_free rfl) ?_ ?_ ?_; rotate_left; (focus (intro v hv; have x1 := (hv.cell (p := ⟨w.heap.size, 1, none⟩) X2.out.lt).trans C1.out; have x2 := (hv.cell (p := ⟨w.heap.size, 2, none⟩) X2.out.lt).trans C2.out; have x3 := (hv.cell (p := ⟨w.heap.size, 3, none⟩) X2.out.lt).trans C3.out; have x5 := (hv.cell (p := ⟨w.heap.size, 5, none⟩) X2.out.lt).trans C5.out; have x6 := (hv.cell (p := ⟨w.heap.size, 6, none⟩) X2.out.lt).trans C6.out; have x7 := (hv.cell (p := ⟨w.heap.size, 7, none⟩) X2.out.lt).trans C7.out; have x9 := (hv.cell (p := ⟨w.heap.size, 9, none⟩) X2.out.lt).trans C9.out; have x10 := (hv.cell (p := ⟨w.heap.size, 10, none⟩) X2.out.lt).trans C10.out; have x11 := (hv.cell (p := ⟨w.heap.size, 11, none⟩) X2.out.lt).trans C11.out; have x12 := (hv.cell (p := ⟨w.heap.size, 12, none⟩) X2.out.lt).trans C12.out; have x13 := (hv.cell (p := ⟨w.heap.size, 13, none⟩) X2.out.lt).trans C13.out; have x14 := (hv.cell (p := ⟨w.heap.size, 14, none⟩) X2.out.lt).trans C14.out; go_simp; rfl)); go_simp)
  (refine t_read 2 rfl (by kernel_rfl) (by kernel_rfl) (by kernel_rfl) (t_free rfl) ?_ ?_ ?_; rotate_left; (focus (intro v hv; go_simp; rfl)); go_simp)
  (refine t_read 3 rfl (by kernel_rfl) (by kernel_rfl) (by kernel_rfl) (t_free rfl) ?_ ?_ ?_; rotate_left; (focus (intro v hv; have x1 := (hv.cell (p := ⟨w.heap.size, 1, none⟩) X2.out.lt).trans C1.out; have x2 := (hv.cell (p := ⟨w.heap.size, 2, none⟩) X2.out.lt).trans C2.out; have x3 := (hv.cell (p := ⟨w.heap.size, 3, none⟩) X2.out.lt).trans C3.out; have x5 := (hv.cell (p := ⟨w.heap.size, 5, none⟩) X2.out.lt).trans C5.out; have x6 := (hv.cell (p := ⟨w.heap.size, 6, none⟩) X2.out.lt).trans C6.out; have x7 := (hv.cell (p := ⟨w.heap.size, 7, none⟩) X2.out.lt).trans C7.out; have x9 := (hv.cell (p := ⟨w.heap.size, 9, none⟩) X2.out.lt).trans C9.out; have x10 := (hv.cell (p := ⟨w.heap.size, 10, none⟩) X2.out.lt).trans C10.out; have x11 := (hv.cell (p := ⟨w.heap.size, 11, none⟩) X2.out.lt).trans C11.out; have x12 := (hv.cell (p := ⟨w.heap.size, 12, none⟩) X2.out.lt).trans C12.out; have x13 := (hv.cell (p := ⟨w.heap.size, 13, none⟩) X2.out.lt).trans C13.out; have x14 := (hv.cell (p := ⟨w.heap.size, 14, none⟩) X2.out.lt).trans C14.out; go_simp; rfl)); go_simp)
  (refine t_read 4 rfl (by kernel_rfl) (by kernel_rfl) (by kernel_rfl) (t_free rfl) ?_ ?_ ?_; rotate_left; (focus (intro v hv; go_simp; rfl)); go_simp)
  (refine t_read 5 rfl (by kernel_rfl) (by kernel_rfl) (by kernel_rfl) (t_free rfl) ?_ ?_ ?_; rotate_left; (focus (intro v hv; have x1 := (hv.cell (p := ⟨w.heap.size, 1, none⟩) X2.out.lt).trans C1.out; have x2 := (hv.cell (p := ⟨w.heap.size, 2, none⟩) X2.out.lt).trans C2.out; have x3 := (hv.cell (p := ⟨w.heap.size, 3, none⟩) X2.out.lt).trans C3.out; have x5 := (hv.cell (p := ⟨w.heap.size, 5, none⟩) X2.out.lt).trans C5.out; have x6 := (hv.cell (p := ⟨w.heap.size, 6, none⟩) X2.out.lt).trans C6.out; have x7 := (hv.cell (p := ⟨w.heap.size, 7, none⟩) X2.out.lt).trans C7.out; have x9 := (hv.cell (p := ⟨w.heap.size, 9, none⟩) X2.out.lt).trans C9.out; have x10 := (hv.cell (p := ⟨w.heap.size, 10, none⟩) X2.out.lt).trans C10.out; have x11 := (hv.cell (p := ⟨w.heap.size, 11, none⟩) X2.out.lt).trans C11.out; have x12 := (hv.cell (p := ⟨w.heap.size, 12, none⟩) X2.out.lt).trans C12.out; have x13 := (hv.cell (p := ⟨w.heap.size, 13, none⟩) X2.out.lt).trans C13.out; have x14 := (hv.cell (p := ⟨w.heap.size, 14, none⟩) X2.out.lt).trans C14.out; go_simp; rfl)); go_simp)
  (refine t_read 6 rfl (by kernel_rfl) (by kernel_rfl) (by kernel_rfl) (t_free rfl) ?_ ?_ ?_; rotate_left; (focus (intro v hv; go_simp; rfl)); go_simp)
  (refine t_read 7 rfl (by kernel_rfl) (by kernel_rfl) (by kernel_rfl) (t_free rfl) ?_ ?_ ?_; rotate_left; (focus (intro v hv; go_simp; rfl)); go_simp)
  (refine t_read 8 rfl (by kernel_rfl) (by kernel_rfl) (by kernel_rfl) (t_free rfl) ?_ ?_ ?_; rotate_left; (focus (intro v hv; have x1 := (hv.cell (p := ⟨w.heap.size, 1, none⟩) X2.out.lt).trans C1.out; have x2 := (hv.cell (p := ⟨w.heap.size, 2, none⟩) X2.out.lt).trans C2.out; have x3 := (hv.cell (p := ⟨w.heap.size, 3, none⟩) X2.out.lt).trans C3.out; have x5 := (hv.cell (p := ⟨w.heap.size, 5, none⟩) X2.out.lt).trans C5.out; have x6 := (hv.cell (p := ⟨w.heap.size, 6, none⟩) X2.out.lt).trans C6.out; have x7 := (hv.cell (p := ⟨w.heap.size, 7, none⟩) X2.out.lt).trans C7.out; have x9 := (hv.cell (p := ⟨w.heap.size, 9, none⟩) X2.out.lt).trans C9.out; have x10 := (hv.cell (p := ⟨w.heap.size, 10, none⟩) X2.out.lt).trans C10.out; have x11 := (hv.cell (p := ⟨w.heap.size, 11, none⟩) X2.out.lt).trans C11.out; have x12 := (hv.cell (p := ⟨w.heap.size, 12, none⟩) X2.out.lt).trans C12.out; have x13 := (hv.cell (p := ⟨w.heap.size, 13, none⟩) X2.out.lt).trans C13.out; have x14 := (hv.cell (p := ⟨w.heap.size, 14, none⟩) X2.out.lt).trans C14.out; go_simp; rfl)); go_simp)
  (refine t_read 9 rfl (by kernel_rfl) (by kernel_rfl) (by kernel_rfl) (t_free rfl) ?_ ?_ ?_; rotate_left; (focus (intro v hv; go_simp; rfl)); go_simp)
  (refine t_read 10 rfl (by kernel_rfl) (by kernel_rfl) (by kernel_rfl) (t_free rfl) ?_ ?_ ?_; rotate_left; (focus (intro v hv; go_simp; rfl)); go_simp)
  (refine t_read 11 rfl (by kernel_rfl) (by kernel_rfl) (by kernel_rfl) (t_free rfl) ?_ ?_ ?_; rotate_left; (focus (intro v hv; have x1 := (hv.cell (p := ⟨w.heap.size, 1, none⟩) X2.out.lt).trans C1.out; have x2 := (hv.cell (p := ⟨w.heap.size, 2, none⟩) X2.out.lt).trans C2.out; have x3 := (hv.cell (p := ⟨w.heap.size, 3, none⟩) X2.out.lt).trans C3.out; have x5 := (hv.cell (p := ⟨w.heap.size, 5, none⟩) X2.out.lt).trans C5.out; have x6 := (hv.cell (p := ⟨w.heap.size, 6, none⟩) X2.out.lt).trans C6.out; have x7 := (hv.cell (p := ⟨w.heap.size, 7, none⟩) X2.out.lt).trans C7.out; have x9 := (hv.cell (p := ⟨w.heap.size, 9, none⟩) X2.out.lt).trans C9.out; have x10 := (hv.cell (p := ⟨w.heap.size, 10, none⟩) X2.out.lt).trans C10.out; have x11 := (hv.cell (p := ⟨w.heap.size, 11, none⟩) X2.out.lt).trans C11.out; have x12 := (hv.cell (p := ⟨w.heap.size, 12, none⟩) X2.out.lt).trans C12.out; have x13 := (hv.cell (p := ⟨w.heap.size, 13, none⟩) X2.out.lt).trans C13.out; have x14 := (hv.cell (p := ⟨w.heap.size, 14, none⟩) X2.out.lt).trans C14.out; go_simp; rfl)); go_simp)
  (refine t_read 12 rfl (by kernel_rfl) (by kernel_rfl) (by kernel_rfl) (t_free rfl) ?_ ?_ ?_; rotate_left; (focus (intro v hv; go_simp; rfl)); go_simp)
  (refine t_read 13 rfl (by kernel_rfl) (by kernel_rfl) (by kernel_rfl) (t_free rfl) ?_ ?_ ?_; rotate_left; (focus (intro v hv; go_simp; rfl)); go_simp)
  (refine t_read 14 rfl (by kernel_rfl) (by kernel_rfl) (by kernel_rfl) (t_free rfl) ?_ ?_ ?_; rotate_left; (focus (intro v hv; have x1 := (hv.cell (p := ⟨w.heap.size, 1, none⟩) X2.out.lt).trans C1.out; have x2 := (hv.cell (p := ⟨w.heap.size, 2, none⟩) X2.out.lt).trans C2.out; have x3 := (hv.cell (p := ⟨w.heap.size, 3, none⟩) X2.out.lt).trans C3.out; have x5 := (hv.cell (p := ⟨w.heap.size, 5, none⟩) X2.out.lt).trans C5.out; have x6 := (hv.cell (p := ⟨w.heap.size, 6, none⟩) X2.out.lt).trans C6.out; have x7 := (hv.cell (p := ⟨w.heap.size, 7, none⟩) X2.out.lt).trans C7.out; have x9 := (hv.cell (p := ⟨w.heap.size, 9, none⟩) X2.out.lt).trans C9.out; have x10 := (hv.cell (p := ⟨w.heap.size, 10, none⟩) X2.out.lt).trans C10.out; have x11 := (hv.cell (p := ⟨w.heap.size, 11, none⟩) X2.out.lt).trans C11.out; have x12 := (hv.cell (p := ⟨w.heap.size, 12, none⟩) X2.out.lt).trans C12.out; have x13 := (hv.cell (p := ⟨w.heap.size, 13, none⟩) X2.out.lt).trans C13.out; have x14 := (hv.cell (p := ⟨w.heap.size, 14, none⟩) X2.out.lt).trans C14.out; go_simp; rfl)); go_simp)
  (refine t_read 16 rfl (by kernel_rfl) (by kernel_rfl) (by kernel_rfl) (t_free rfl) ?_ ?_ ?_; rotate_left; (focus (intro v hv; go_simp; rfl)); go_simp)
  (refine t_read 17 rfl (by kernel_rfl) (by kernel_rfl) (by kernel_rfl) (t_free rfl) ?_ ?_ ?_; rotate_left; (focus (intro v hv; have x1 := (hv.cell (p := ⟨w.heap.size, 1, none⟩) X2.out.lt).trans C1.out; have x2 := (hv.cell (p := ⟨w.heap.size, 2, none⟩) X2.out.lt).trans C2.out; have x3 := (hv.cell (p := ⟨w.heap.size, 3, none⟩) X2.out.lt).trans C3.out; have x5 := (hv.cell (p := ⟨w.heap.size, 5, none⟩) X2.out.lt).trans C5.out; have x6 := (hv.cell (p := ⟨w.heap.size, 6, none⟩) X2.out.lt).trans C6.out; have x7 := (hv.cell (p := ⟨w.heap.size, 7, none⟩) X2.out.lt).trans C7.out; have x9 := (hv.cell (p := ⟨w.heap.size, 9, none⟩) X2.out.lt).trans C9.out; have x10 := (hv.cell (p := ⟨w.heap.size, 10, none⟩) X2.out.lt).trans C10.out; have x11 := (hv.cell (p := ⟨w.heap.size, 11, none⟩) X2.out.lt).trans C11.out; have x12 := (hv.cell (p := ⟨w.heap.size, 12, none⟩) X2.out.lt).trans C12.out; have x13 := (hv.cell (p := ⟨w.heap.size, 13, none⟩) X2.out.lt).trans C13.out; have x14 := (hv.cell (p := ⟨w.heap.size, 14, none⟩) X2.out.lt).trans C14.out; go_simp; rfl)); go_simp)
  (refine t_read 18 rfl (by kernel_rfl) (by kernel_rfl) (by kernel_rfl) (t_free rfl) ?_ ?_ ?_; rotate_left; (focus (intro v hv; go_simp; rfl)); go_simp)
  (refine t_read 19 rfl (by kernel_rfl) (by kernel_rfl) (by kernel_rfl) (t_free rfl) ?_ ?_ ?_; rotate_left; (focus (intro v hv; have x1 := (hv.cell (p := ⟨w.heap.size, 1, none⟩) X2.out.lt).trans C1.out; have x2 := (hv.cell (p := ⟨w.heap.size, 2, none⟩) X2.out.lt).trans C2.out; have x3 := (hv.cell (p := ⟨w.heap.size, 3, none⟩) X2.out.lt).trans C3.out; have x5 := (hv.cell (p := ⟨w.heap.size, 5, none⟩) X2.out.lt).trans C5.out; have x6 := (hv.cell (p := ⟨w.heap.size, 6, none⟩) X2.out.lt).trans C6.out; have x7 := (hv.cell (p := ⟨w.heap.size, 7, none⟩) X2.out.lt).trans C7.out; have x9 := (hv.cell (p := ⟨w.heap.size, 9, none⟩) X2.out.lt).trans C9.out; have x10 := (hv.cell (p := ⟨w.heap.size, 10, none⟩) X2.out.lt).trans C10.out; have x11 := (hv.cell (p := ⟨w.heap.size, 11, none⟩) X2.out.lt).trans C11.out; have x12 := (hv.cell (p := ⟨w.heap.size, 12, none⟩) X2.out.lt).trans C12.out; have x13 := (hv.cell (p := ⟨w.heap.size, 13, none⟩) X2.out.lt).trans C13.out; have x14 := (hv.cell (p := ⟨w.heap.size, 14, none⟩) X2.out.lt).trans C14.out; go_simp; rfl)); go_simp)
  (refine t_read 20 rfl (by kernel_rfl) (by kernel_rfl) (by kernel_rfl) (t_free rfl) ?_ ?_ ?_; rotate_left; (focus (intro v hv; go_simp; rfl)); go_simp)
  (refine t_read 21 rfl (by kernel_rfl) (by kernel_rfl) (by kernel_rfl) (t_free rfl) ?_ ?_ ?_; rotate_left; (focus (intro v hv; have x1 := (hv.cell (p := ⟨w.heap.size, 1, none⟩) X2.out.lt).trans C1.out; have x2 := (hv.cell (p := ⟨w.heap.size, 2, none⟩) X2.out.lt).trans C2.out; have x3 := (hv.cell (p := ⟨w.heap.size, 3, none⟩) X2.out.lt).trans C3.out; have x5 := (hv.cell (p := ⟨w.heap.size, 5, none⟩) X2.out.lt).trans C5.out; have x6 := (hv.cell (p := ⟨w.heap.size, 6, none⟩) X2.out.lt).trans C6.out; have x7 := (hv.cell (p := ⟨w.heap.size, 7, none⟩) X2.out.lt).trans C7.out; have x9 := (hv.cell (p := ⟨w.heap.size, 9, none⟩) X2.out.lt).trans C9.out; have x10 := (hv.cell (p := ⟨w.heap.size, 10, none⟩) X2.out.lt).trans C10.out; have x11 := (hv.cell (p := ⟨w.heap.size, 11, none⟩) X2.out.lt).trans C11.out; have x12 := (hv.cell (p := ⟨w.heap.size, 12, none⟩) X2.out.lt).trans C12.out; have x13 := (hv.cell (p := ⟨w.heap.size, 13, none⟩) X2.out.lt).trans C13.out; have x14 := (hv.cell (p := ⟨w.heap.size, 14, none⟩) X2.out.lt).trans C14.out; go_simp; rfl)); go_simp)
  (refine t_read 22 rfl (by kernel_rfl) (by kernel_rfl) (by kernel_rfl) (t_free rfl) ?_ ?_ ?_; rotate_left; (focus (intro v hv; go_simp; rfl)); go_simp)
  (refine t_read 23 rfl (by kernel_rfl) (by kernel_rfl) (by kernel_rfl) (t_free rfl) ?_ ?_ ?_; rotate_left; (focus (intro v hv; have x1 := (hv.cell (p := ⟨w.heap.size, 1, none⟩) X2.out.lt).trans C1.out; have x2 := (hv.cell (p := ⟨w.heap.size, 2, none⟩) X2.out.lt).trans C2.out; have x3 := (hv.cell (p := ⟨w.heap.size, 3, none⟩) X2.out.lt).trans C3.out; have x5 := (hv.cell (p := ⟨w.heap.size, 5, none⟩) X2.out.lt).trans C5.out; have x6 := (hv.cell (p := ⟨w.heap.size, 6, none⟩) X2.out.lt).trans C6.out; have x7 := (hv.cell (p := ⟨w.heap.size, 7, none⟩) X2.out.lt).trans C7.out; have x9 := (hv.cell (p := ⟨w.heap.size, 9, none⟩) X2.out.lt).trans C9.out; have x10 := (hv.cell (p := ⟨w.heap.size, 10, none⟩) X2.out.lt).trans C10.out; have x11 := (hv.cell (p := ⟨w.heap.size, 11, none⟩) X2.out.lt).trans C11.out; have x12 := (hv.cell (p := ⟨w.heap.size, 12, none⟩) X2.out.lt).trans C12.out; have x13 := (hv.cell (p := ⟨w.heap.size, 13, none⟩) X2.out.lt).trans C13.out; have x14 := (hv.cell (p := ⟨w.heap.size, 14, none⟩) X2.out.lt).trans C14.out; go_simp; rfl)); go_simp)
  (refine t_read 24 rfl (by kernel_rfl) (by kernel_rfl) (by kernel_rfl) (t_free rfl) ?_ ?_ ?_; rotate_left; (focus (intro v hv; go_simp; rfl)); go_simp)
  (refine t_read 25 rfl (by kernel_rfl) (by kernel_rfl) (by kernel_rfl) (t_free rfl) ?_ ?_ ?_; rotate_left; (focus (intro v hv; have x1 := (hv.cell (p := ⟨w.heap.size, 1, none⟩) X2.out.lt).trans C1.out; have x2 := (hv.cell (p := ⟨w.heap.size, 2, none⟩) X2.out.lt).trans C2.out; have x3 := (hv.cell (p := ⟨w.heap.size, 3, none⟩) X2.out.lt).trans C3.out; have x5 := (hv.cell (p := ⟨w.heap.size, 5, none⟩) X2.out.lt).trans C5.out; have x6 := (hv.cell (p := ⟨w.heap.size, 6, none⟩) X2.out.lt).trans C6.out; have x7 := (hv.cell (p := ⟨w.heap.size, 7, none⟩) X2.out.lt).trans C7.out; have x9 := (hv.cell (p := ⟨w.heap.size, 9, none⟩) X2.out.lt).trans C9.out; have x10 := (hv.cell (p := ⟨w.heap.size, 10, none⟩) X2.out.lt).trans C10.out; have x11 := (hv.cell (p := ⟨w.heap.size, 11, none⟩) X2.out.lt).trans C11.out; have x12 := (hv.cell (p := ⟨w.heap.size, 12, none⟩) X2.out.lt).trans C12.out; have x13 := (hv.cell (p := ⟨w.heap.size, 13, none⟩) X2.out.lt).trans C13.out; have x14 := (hv.cell (p := ⟨w.heap.size, 14, none⟩) X2.out.lt).trans C14.out; go_simp; rfl)); go_simp)
  (refine t_read 26 rfl (by kernel_rfl) (by kernel_rfl) (by kernel_rfl) (t_free rfl) ?_ ?_ ?_; rotate_left; (focus (intro v hv; go_simp; rfl)); go_simp)
  (refine t_read 27 rfl (by kernel_rfl) (by kernel_rfl) (by kernel_rfl) (t_free rfl) ?_ ?_ ?_; rotate_left; (focus (intro v hv; have x1 := (hv.cell (p := ⟨w.heap.size, 1, none⟩) X2.out.lt).trans C1.out; have x2 := (hv.cell (p := ⟨w.heap.size, 2, none⟩) X2.out.lt).trans C2.out; have x3 := (hv.cell (p := ⟨w.heap.size, 3, none⟩) X2.out.lt).trans C3.out; have x5 := (hv.cell (p := ⟨w.heap.size, 5, none⟩) X2.out.lt).trans C5.out; have x6 := (hv.cell (p := ⟨w.heap.size, 6, none⟩) X2.out.lt).trans C6.out; have x7 := (hv.cell (p := ⟨w.heap.size, 7, none⟩) X2.out.lt).trans C7.out; have x9 := (hv.cell (p := ⟨w.heap.size, 9, none⟩) X2.out.lt).trans C9.out; have x10 := (hv.cell (p := ⟨w.heap.size, 10, none⟩) X2.out.lt).trans C10.out; have x11 := (hv.cell (p := ⟨w.heap.size, 11, none⟩) X2.out.lt).trans C11.out; have x12 := (hv.cell (p := ⟨w.heap.size, 12, none⟩) X2.out.lt).trans C12.out; have x13 := (hv.cell (p := ⟨w.heap.size, 13, none⟩) X2.out.lt).trans C13.out; have x14 := (hv.cell (p := ⟨w.heap.size, 14, none⟩) X2.out.lt).trans C14.out; go_simp; rfl)); go_simp)
  (refine t_list 15 rfl (by kernel_rfl) rfl ?_; intro K hK)
  refine append_ls cvOk rfl _ _ rfl d0.heap.size (.slice none 0 0) [] (by first | (go_simp; done) | (go_simp; rfl)) (LsO.nil _ _) va vn vc V (by first | (go_simp; done) | (go_simp; rfl)) (HV.out.mono cvOk (B2.out.trans (J0.out.mono B2.out.size))) (by have := HVN.out; simp; omega) (Nat.le_refl _) ?_
  intro v1 d1 ho hb _ _
  obtain ⟨va2, vc2, rfl, -⟩ := lso_form (n := vn) ho HVL.out
  have O1 := Lib.hid (show LsO cvE d1 w2.heap.size (.slice va2 vn vc2) V from LsO.base ho J0.out.size)
  have J1 := Lib.hid (J0.out.trans (hb.mono J0.out.size))
  clear ho hb
  refine hK _ _ J1.out ?_
  go_simp
  (refine t_list 28 rfl (by kernel_rfl) rfl ?_; intro K hK)
  refine append_ls pcOk rfl _ _ rfl d1.heap.size (.slice none 0 0) [] (by first | (go_simp; done) | (go_simp; rfl)) (LsO.nil _ _) pa pn pc PL (by first | (go_simp; done) | (go_simp; rfl)) (HP.out.mono pcOk (B2.out.trans (J1.out.mono B2.out.size))) (by have := HPN.out; simp; omega) (Nat.le_refl _) ?_
  intro v2 d2 ho hb _ _
  obtain ⟨pa2, pc2, rfl, -⟩ := lso_form (n := pn) ho HPL.out
  have Q2 := Lib.hid (show LsO pcE d2 w2.heap.size (.slice pa2 pn pc2) PL from LsO.base ho J1.out.size)
  have O2 := Lib.hid (O1.out.kept hb)
  have J2 := Lib.hid (J1.out.trans (hb.mono J1.out.size))
  clear ho hb
  refine hK _ _ J2.out ?_
  go_simp
  have qb := cm_built cl sq kd id ep va2 vn vc2 sp nm nu by1 ti pa2 pn pc2
  (refine t_read 29 rfl (by kernel_rfl) (by kernel_rfl) (by kernel_rfl) (t_free rfl) ?_ ?_ ?_; rotate_left; (focus (intro v hv; go_simp; rfl)); go_simp)
  (refine t_last 30 rfl (by kernel_rfl) rfl (by kernel_rfl) (by kernel_rfl) ?_; intro K hK)
  refine store_row rfl _ _ _ rfl w1.heap.size (cmC cl sq kd id ep va2 vn vc2 sp nm nu by1 ti pa2 pn pc2) (by go_simp) (by first | (go_simp; done) | (go_simp; rfl)) 25 _ (E2.out.below J2.out E2.out.lt) CZ.out rfl (cm_one _ _ _ _ _ _ _ _ _ _ _ _ _ _ _ _) ?_
  intro w7 hr hu
  have R7 := Lib.hid hr
  have B7 := Lib.hid ((B2.out.trans (J2.out.mono B2.out.size)).trans (hu.below B1.out.size))
  have O7 := Lib.hid (lso_upd_lt O2.out hu E2.out.lt)
  have Q7 := Lib.hid (lso_upd_lt Q2.out hu E2.out.lt)
  clear hr hu
  refine hK _ _ ?_
  go_simp
  go_wp2_with fail
  exact bodyPost_ret (results_cell_row rfl _ _ w1.heap.size 25 _ _ _ (by go_simp) R7.out Try.underlying25 rfl CZ.out) rfl ⟨va2, vc2, pa2, pc2, rfl, O7.out.base B2.out.size, Q7.out.base B2.out.size, B7.out⟩
end Go.Proofs.Ytmacjpgeamlmhaa.W
