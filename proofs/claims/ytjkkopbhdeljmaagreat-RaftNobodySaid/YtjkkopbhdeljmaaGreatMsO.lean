/- LAYER 16 (msg): messages as they come in; what they are without their places. -/
import Derived.Test.YtjkkopbhdeljmaaGreatRcV
import Derived.Test.YtjkkopbhdeljmaaGreatRcX
set_option linter.unusedSimpArgs false
set_option linter.unusedVariables false
namespace Go.Proofs.YtjkkopbhdeljmaaGreat.W
open Go Go.ChangeShapes Go.WideShapes Go.ChangeAt Go.RowKit

/-- a message, as it is handed over -/
structure Ms where
  k : Int
  fr : Int
  dt : Int
  tm : Int
  ix : Int
  lt : Int
  cm : Int
  rn : Int
  cf : Int
  ok : Bool
  ea : Option Addr
  en : Nat
  ec : Nat
  a : Option Addr
  n : Nat
  c : Nat
  s : ByteArray
def Ms.cells (m : Ms) : List Value := [.int .i64 m.k, .int .i64 m.fr, .int .i64 m.dt, .int .i64 m.tm, .int .i64 m.ix, .int .i64 m.lt, .int .i64 m.cm, .int .i64 m.rn, .int .i64 m.cf, .bool m.ok, .slice m.ea m.en m.ec, .slice m.a m.n m.c, .string m.s]
structure MsF (w : World) (m : Ms) (d : List UInt8) (L : List (En × List UInt8)) : Prop where
  k : I64 m.k
  fr : I64 m.fr
  dt : I64 m.dt
  tm : I64 m.tm
  ix : I64 m.ix
  lt : I64 m.lt
  cm : I64 m.cm
  rn : I64 m.rn
  cf : I64 m.cf
  es : Ents w m.ea m.en m.ec L
  rd : Rd w m.a m.n m.c d
  st : m.s.size ≤ maxLen
theorem MsF.mono {w w' : World} {m : Ms} {d : List UInt8} {L : List (En × List UInt8)} (h : MsF w m d L) (hb : Below w.heap.size w w') : MsF w' m d L := ⟨h.k, h.fr, h.dt, h.tm, h.ix, h.lt, h.cm, h.rn, h.cf, h.es.mono hb, h.rd.mono hb, h.st⟩
theorem Row.q13 {w : World} {g : Nat} {t : TypeId} {a0 a1 a2 a3 a4 a5 a6 a7 a8 a9 a10 a11 a12 : Value} (h : Row w g t [a0, a1, a2, a3, a4, a5, a6, a7, a8, a9, a10, a11, a12]) :
    w.cell? ⟨g, 0, none⟩ = some a0 ∧ w.cell? ⟨g, 1, none⟩ = some a1 ∧ w.cell? ⟨g, 2, none⟩ = some a2 ∧ w.cell? ⟨g, 3, none⟩ = some a3 ∧ w.cell? ⟨g, 4, none⟩ = some a4 ∧ w.cell? ⟨g, 5, none⟩ = some a5 ∧ w.cell? ⟨g, 6, none⟩ = some a6 ∧ w.cell? ⟨g, 7, none⟩ = some a7 ∧ w.cell? ⟨g, 8, none⟩ = some a8 ∧ w.cell? ⟨g, 9, none⟩ = some a9 ∧ w.cell? ⟨g, 10, none⟩ = some a10 ∧ w.cell? ⟨g, 11, none⟩ = some a11 ∧ w.cell? ⟨g, 12, none⟩ = some a12 := by
  refine ⟨?_, ?_, ?_, ?_, ?_, ?_, ?_, ?_, ?_, ?_, ?_, ?_, ?_⟩ <;> (rw [h.cellV]; rfl)
theorem ms_size : (Tryz.prog.info? 35).map (·.size) = some 13 := by kernel_rfl
theorem ms_one (m : Ms) : ∀ v ∈ m.cells, v.oneCell' = true := by
  intro v hv
  simp [Ms.cells] at hv
  rcases hv with rfl | rfl | rfl | rfl | rfl | rfl | rfl | rfl | rfl | rfl | rfl | rfl | rfl <;> rfl

section
variable {H : Type} {enc : TypeId × Value → H} {w : World} {base : Nat} {held : Bool}
set_option maxRecDepth 100000 in
theorem ms_cells {fuel : Nat} {cs : List Value} {x : DataW H × List MemPlace} (h : DataW.trod enc Tryz.prog w base (fun _ => true) held fuel 35 cs = some x) : ∃ m d L, cs = Ms.cells m ∧ MsF w m d L := by
  obtain ⟨xs, n, hn, rfl, hl, hlen, hf⟩ := DataW.trod_struct Tryz.underlying35 h
  have hcl : Tryz.prog.cellsOf 35 = 13 := by kernel_rfl
  rw [hcl] at hl
  have f0 := hf 0 _ rfl
  have f1 := hf 1 _ rfl
  have f2 := hf 2 _ rfl
  have f3 := hf 3 _ rfl
  have f4 := hf 4 _ rfl
  have f5 := hf 5 _ rfl
  have f6 := hf 6 _ rfl
  have f7 := hf 7 _ rfl
  have f8 := hf 8 _ rfl
  have f9 := hf 9 _ rfl
  have f10 := hf 10 _ rfl
  have f11 := hf 11 _ rfl
  have f12 := hf 12 _ rfl
  match cs, hl with
  | [v0, v1, v2, v3, v4, v5, v6, v7, v8, v9, v10, v11, v12], _ =>
    have c1 : Tryz.prog.cellsOf 3 = 1 := by kernel_rfl
    have c2 : Tryz.prog.cellsOf 22 = 1 := by kernel_rfl
    have c3 : Tryz.prog.cellsOf 23 = 1 := by kernel_rfl
    have c4 : Tryz.prog.cellsOf 4 = 1 := by kernel_rfl
    have c5 : Tryz.prog.cellsOf 9 = 1 := by kernel_rfl
    match xs, hlen with
    | [x0, x1, x2, x3, x4, x5, x6, x7, x8, x9, x10, x11, x12], _ =>
    simp [c1] at f0 f1 f2 f3 f4 f5 f6 f7 f8
    simp [c1, c4] at f9
    simp [c1, c4, c3] at f10
    simp [c1, c4, c3, c2] at f11
    simp [c1, c4, c3, c2, c5] at f12
    obtain ⟨n0, e0, w0⟩ := int_cells f0
    obtain ⟨n1, e1, w1⟩ := int_cells f1
    obtain ⟨n2, e2, w2⟩ := int_cells f2
    obtain ⟨n3, e3, w3⟩ := int_cells f3
    obtain ⟨n4, e4, w4⟩ := int_cells f4
    obtain ⟨n5, e5, w5⟩ := int_cells f5
    obtain ⟨n6, e6, w6⟩ := int_cells f6
    obtain ⟨n7, e7, w7⟩ := int_cells f7
    obtain ⟨n8, e8, w8⟩ := int_cells f8
    obtain ⟨b9, e9, -⟩ := DataW.trod_bool Tryz.underlying4 f9
    obtain ⟨ea, en, ec, L, e10, hL⟩ := ens_cells f10
    obtain ⟨a, n, c, l, e11, hr⟩ := bytes_cells f11
    obtain ⟨s, e12, -, w12⟩ := DataW.trod_string Tryz.underlying9 f12
    simp at e0 e1 e2 e3 e4 e5 e6 e7 e8 e9 e10 e11 e12
    subst e0 e1 e2 e3 e4 e5 e6 e7 e8 e9 e10 e11 e12
    exact ⟨⟨n0, n1, n2, n3, n4, n5, n6, n7, n8, b9, ea, en, ec, a, n, c, s⟩, l, L, rfl, w0, w1, w2, w3, w4, w5, w6, w7, w8, hL, hr, w12⟩
set_option maxRecDepth 100000 in
theorem ms_open {base' : Nat} {v : Value} {d : DataW H} {pl : List MemPlace} (hv : Value.okWide Tryz.prog w .any base' 35 v) (h : DataW.Trod enc Tryz.prog w base (fun _ => true) held 35 v d pl) : ∃ m : Ms, v = .agg m.cells.toArray ∧ ∃ l L, MsF w m l L := by
  obtain ⟨fuel, hf⟩ := h
  obtain ⟨s, l, L, hc, hfit⟩ := ms_cells hf
  obtain ⟨cs, rfl, -⟩ := okWide_struct Tryz.underlying35 hv
  refine ⟨s, ?_, l, L, hfit⟩
  simp [Value.cells] at hc
  rw [← hc]
end
/-- a message, without its places -/
structure MF where
  k : Int
  fr : Int
  dt : Int
  tm : Int
  ix : Int
  lt : Int
  cm : Int
  rn : Int
  cf : Int
  ok : Bool
  d : List UInt8
  s : List UInt8
  l : List (Int × Int × Int × List UInt8)
def Ms.pl (m : Ms) (d : List UInt8) (L : List (En × List UInt8)) : MF := ⟨m.k, m.fr, m.dt, m.tm, m.ix, m.lt, m.cm, m.rn, m.cf, m.ok, d, m.s.data.toList, L.map pe⟩
/-- that two are the same -/
def MF.same (a b : MF) : Bool := (a.k == b.k) && ((a.fr == b.fr) && ((a.dt == b.dt) && ((a.tm == b.tm) && ((a.ix == b.ix) && ((a.lt == b.lt) && ((a.cm == b.cm) && ((a.rn == b.rn) && ((a.cf == b.cf) && ((a.ok == b.ok) && (decide (a.d = b.d) && (decide (a.s = b.s) && decide (a.l = b.l))))))))))))
theorem MF.same_self (a : MF) : a.same a = true := by simp [MF.same]
theorem MF.same_iff {a b : MF} : a.same b = true ↔ a = b := by
  obtain ⟨k, fr, dt, tm, ix, lt, cm, rn, cf, ok, d, s, l⟩ := a
  obtain ⟨k', fr', dt', tm', ix', lt', cm', rn', cf', ok', d', s', l'⟩ := b
  simp [MF.same]
/-- the fields that a kind has: 0 Index, 1 LogTerm, 2 Commit, 3 Round, 4 Conf, 5 OK, 6 Entries, 7 Data, 8 Sum -/
def fieldsV (k : Int) : List Nat :=
  if k = 1 ∨ k = 3 then [0, 1] else if k = 2 ∨ k = 4 then [5] else if k = 5 then [0, 1, 2, 3, 6] else if k = 6 then [0, 3, 5] else if k = 7 then [0, 1, 3, 4, 7]
  else if k = 8 then [0, 7, 8] else if k = 9 then [5, 8] else if k = 10 then [3, 8] else if k = 11 then [3, 5, 7, 8] else []
/-- a message with what some fields have of another one -/
def MF.setF (o m : MF) (f : Nat) : MF :=
  if f = 0 then { o with ix := m.ix } else if f = 1 then { o with lt := m.lt } else if f = 2 then { o with cm := m.cm } else if f = 3 then { o with rn := m.rn } else if f = 4 then { o with cf := m.cf }
  else if f = 5 then { o with ok := m.ok } else if f = 6 then { o with l := m.l } else if f = 7 then { o with d := m.d } else { o with s := m.s }
def MF.bare (m : MF) : MF := ⟨m.k, m.fr, m.dt, m.tm, 0, 0, 0, 0, 0, false, [], [], []⟩
def MF.only (m : MF) : MF := (fieldsV m.k).foldl (fun o f => o.setF m f) m.bare
/-- an entry that may be -/
def okE (x : Int × Int × Int × List UInt8) : Bool := inV x.1 1 2147483648 && (inV x.2.1 0 2147483648 && (inV x.2.2.1 0 2 && decide (x.2.2.2.length ≤ 4096)))
theorem okE_pe {w : World} {e : En} {l : List UInt8} (h : EnF w e l) : okE (pe (e, l)) = enOk e := by
  have := h.rd.hlen
  unfold okE enOk pe
  dsimp only
  rw [this]
/-- that a message may be, but for what its kind does not have -/
def MF.fits (m : MF) : Bool := inV m.k 1 11 && (inV m.fr 0 6 && (inV m.dt 0 6 && (!(m.fr == m.dt) && (inV m.tm 0 2147483648 && (inV m.ix 0 2147483648 && (inV m.lt 0 2147483648 && (inV m.cm 0 2147483648 && (inV m.rn 0 2147483648 && (inV m.cf 0 127 && (decide (m.l.length ≤ 8) && (decide (m.d.length ≤ 131072) && ((decide (m.s.length = 0) || decide (m.s.length = 32)) && m.l.all okE))))))))))))
/-- what Check answers -/
def MF.chk (m : MF) : Int := if m.fits = true ∧ m.same m.only = true then 0 else 1
end Go.Proofs.YtjkkopbhdeljmaaGreat.W
