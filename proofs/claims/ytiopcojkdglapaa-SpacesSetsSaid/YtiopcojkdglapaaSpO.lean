/- LAYER 18 (spaces): namespaces as they come in; plain. -/
import Derived.Test.YtiopcojkdglapaaLs
import Derived.Test.YtiopcojkdglapaaCavO
import Derived.Test.YtiopcojkdglapaaCavH
set_option linter.unusedSimpArgs false
set_option linter.unusedVariables false
namespace Go.Proofs.Ytiopcojkdglapaa.W
open Go Go.ChangeShapes Go.WideShapes Go.ChangeAt Go.RowKit
open Go.Proofs.Ytiopcojkdglapaa.P (enc dec)

/-- a namespace -/
structure Sp where
  name : ByteArray
  rd : Int
  wr : Int
def SI (x : Int) : Prop := -9223372036854775808 ≤ x ∧ x ≤ 9223372036854775807
def Sp.fit (s : Sp) : Prop := s.name.size ≤ maxLen ∧ SI s.rd ∧ SI s.wr
@[reducible] def Sp.cells (s : Sp) : List Value := [.string s.name, .int .i64 s.rd, .int .i64 s.wr]
@[reducible] def spE : El Sp := ⟨22, 24, 3, 32, .agg #[.string ⟨#[]⟩, .int .i64 0, .int .i64 0], Sp.cells, fun _ s => s.fit⟩
theorem spOk : spE.Ok Try.prog where
  und := Try.underlying22
  info := by kernel_rfl
  zs := rfl
  pos := by decide
  len := fun _ => rfl
  one := fun s v hv => by simp at hv; rcases hv with rfl | rfl | rfl <;> rfl
  mono := fun _ _ _ h _ => h
  small := by decide
theorem sp_size : (Try.prog.info? 24).map (·.size) = some 3 := by kernel_rfl
theorem sp_zero : (Try.prog.info? 24).map (·.zero) = some (some (.agg (Sp.cells ⟨⟨#[]⟩, 0, 0⟩).toArray)) := by kernel_rfl
theorem sp_one (s : Sp) : ∀ v ∈ s.cells, v.oneCell' = true := spOk.one s
section
variable {H : Type} {enc : TypeId × Value → H} {w : World} {base : Nat} {held : Bool}
/-- a slice of structs that came in reads as a list -/
theorem ls_cells {α : Type} {P : Program} {E : El α} (hE : E.Ok P) (hc : P.cellsOf E.eT = E.k) (hel : ∀ {fuel : Nat} {cs : List Value} {x : DataW H × List MemPlace}, DataW.trod enc P w base (fun _ => true) held fuel E.eT cs = some x → ∃ y, cs = E.cells y ∧ E.fit w y)
    {fuel : Nat} {cs : List Value} {d : DataW H × List MemPlace} (h : DataW.trod enc P w base (fun _ => true) held fuel E.sT cs = some d) : ∃ a n c L, cs = [.slice a n c] ∧ Ls E w a n c L := by
  rcases Go.Deep.open_slice hE.und h with ⟨hcs, -⟩ | ⟨x, len, cap, m, n, D, P0, hcs, -, hl, hm, hmm, -, hx⟩
  · exact ⟨none, 0, 0, [], hcs, Ls.nil w⟩
  · refine ⟨some x, len, cap, ?_⟩
    have hml : len ≤ m := by rw [hmm]; split <;> omega
    have each : ∀ i, i < len → ∃ p : α, E.fit w p ∧ ∀ j v, (E.cells p)[j]? = some v → w.cell? ((x.add (i * E.k)).add j) = some v := by
      intro i hi
      obtain ⟨cs', h1, h2⟩ := hx i (by omega)
      obtain ⟨y, rfl, hfit⟩ := hel h2
      rw [hc] at h1
      obtain ⟨_, hlen, hcell⟩ := World.cells?_some h1
      refine ⟨y, hfit, fun j v hj => ?_⟩
      have hjk : j < E.k := by rw [← hE.len y]; exact (List.getElem?_eq_some_iff.1 hj).1
      rw [hcell j hjk, hj]
    rcases Nat.eq_zero_or_pos len with h0 | hpos
    · subst h0
      exact ⟨[], hcs, rfl, by omega, by unfold maxLen at hm; omega, by simp, (fun h => by cases h), .inl rfl⟩
    obtain ⟨p0, -⟩ := each 0 hpos
    haveI : Inhabited α := ⟨p0⟩
    obtain ⟨q, hq⟩ := Go.Deep.choose_lt each
    refine ⟨(List.range len).map q, hcs, by simp, hl, by unfold maxLen at hm; omega, ?_, (fun h => by cases h), ?_⟩
    · intro c hc
      obtain ⟨i, hi, rfl⟩ := List.mem_map.1 hc
      exact (hq i (by simpa using hi)).1
    · right
      obtain ⟨b, off, spot⟩ := x
      have hp0 := hE.pos
      have hl0 := hE.len (q 0)
      obtain ⟨v0, hv0⟩ : ∃ v0, (E.cells (q 0))[0]? = some v0 := ⟨(E.cells (q 0))[0]'(by omega), by simp⟩
      have hcell0 := (hq 0 (by omega)).2 0 v0 hv0
      have hspot : spot = none := by simpa [Addr.add] using World.cell?_spot hcell0
      subst hspot
      refine ⟨b, off, rfl, ?_, fun i y hi j v hj => ?_⟩
      · rw [Go.WideShapes.add_plain, Go.WideShapes.add_plain] at hcell0
        exact World.block_lt_of_cell? w _ hcell0
      · have hil : i < len := by have := (List.getElem?_eq_some_iff.1 hi).1; simpa using this
        have hy : y = q i := by simp [hil] at hi; exact hi.symm
        subst hy
        have h1 := (hq i hil).2 j v hj
        rw [Go.WideShapes.add_plain, Go.WideShapes.add_plain] at h1
        exact h1
set_option maxRecDepth 100000 in
theorem sp_cells {fuel : Nat} {cs : List Value} {x : DataW H × List MemPlace} (h : DataW.trod enc Try.prog w base (fun _ => true) held fuel 24 cs = some x) : ∃ c : Sp, cs = c.cells ∧ c.fit := by
  obtain ⟨xs, n, hn, rfl, hl, hlen, hf⟩ := DataW.trod_struct Try.underlying24 h
  have hcl : Try.prog.cellsOf 24 = 3 := by kernel_rfl
  rw [hcl] at hl
  have f0 := hf 0 _ rfl
  have f1 := hf 1 _ rfl
  have f2 := hf 2 _ rfl
  match cs, hl with
  | [v0, v1, v2], _ =>
    have c1 : Try.prog.cellsOf 3 = 1 := by kernel_rfl
    have c2 : Try.prog.cellsOf 9 = 1 := by kernel_rfl
    match xs, hlen with
    | [x0, x1, x2], _ =>
    simp [c2] at f0
    simp [c1, c2] at f1 f2
    obtain ⟨s, e0, -, w0⟩ := DataW.trod_string Try.underlying9 f0
    obtain ⟨n1, e1, -, w1⟩ := DataW.trod_int Try.underlying3 f1
    obtain ⟨n2, e2, -, w2⟩ := DataW.trod_int Try.underlying3 f2
    simp at e0 e1 e2
    exact ⟨⟨s, n1, n2⟩, by simp [Sp.cells, e0, e1, e2], w0, bd w1, bd w2⟩
set_option maxRecDepth 100000 in
theorem sp_open {base' : Nat} {v : Value} {d : DataW H} {pl : List MemPlace} (hv : Value.okWide Try.prog w .any base' 24 v) (h : DataW.Trod enc Try.prog w base (fun _ => true) held 24 v d pl) : ∃ c : Sp, v = .agg c.cells.toArray ∧ c.fit := by
  obtain ⟨fuel, hf⟩ := h
  obtain ⟨c, hc, hfit⟩ := sp_cells hf
  obtain ⟨cs, rfl, -⟩ := okWide_struct Try.underlying24 hv
  refine ⟨c, ?_, hfit⟩
  simp [Value.cells] at hc
  rw [← hc]
theorem sps_open {a : Option Addr} {len cap : Nat} {d : DataW H} {pl : List MemPlace} (h : DataW.Trod enc Try.prog w base (fun _ => true) held 22 (.slice a len cap) d pl) : ∃ L, Ls spE w a len cap L := by
  obtain ⟨fuel, hf⟩ := h
  obtain ⟨a', n', c', L, hc, hL⟩ := ls_cells spOk (by kernel_rfl) (fun hx => sp_cells hx) hf
  simp [Value.cells] at hc
  obtain ⟨rfl, rfl, rfl⟩ := hc
  exact ⟨L, hL⟩
end

-- ---- plain
def ltB (a b : ByteArray) : Bool := Op.bytesLess a.toList b.toList
def eqB (a b : ByteArray) : Bool := a.toList == b.toList
theorem eqB_iff (a b : ByteArray) : eqB a b = true ↔ a = b := by
  unfold eqB
  rw [ByteArray.toList_eq, ByteArray.toList_eq]
  constructor
  · intro h
    have : a.data.toList = b.data.toList := by simpa using h
    cases a; cases b; congr 1; exact Array.toList_inj.1 this
  · intro h; rw [h]; simp
def inS (n lo hi : Int) : Bool := decide (lo ≤ n) && decide (n ≤ hi)
def Sp.ok (s : Sp) : Bool := nameV s.name && (inS s.rd 0 255 && inS s.wr 0 255)
def behindV : Option Sp → Sp → Bool
  | none, _ => true
  | some q, s => ltB q.name s.name
/-- that namespaces may be, but for how many they are: from one on, behind another one -/
def chkS : Option Sp → List Sp → Bool
  | _, [] => true
  | p, s :: L => s.ok && (behindV p s && chkS (some s) L)
def checkV (L : List Sp) : Bool := chkS none L && decide (L.length ≤ 6)
def spZ : Sp := ⟨⟨#[]⟩, 0, 0⟩
def findV : List Sp → ByteArray → Sp × Bool
  | [], _ => (spZ, false)
  | s :: L, n => if eqB s.name n then (s, true) else findV L n
/-- the first of that name is another one now -/
def subV : List Sp → Sp → Option (List Sp)
  | [], _ => none
  | x :: L, s => if eqB x.name s.name then some (s :: L) else (subV L s).map (x :: ·)
/-- how many stand ahead of a name -/
def aheadV : List Sp → ByteArray → Nat
  | [], _ => 0
  | x :: L, n => if ltB x.name n then aheadV L n + 1 else 0
def setV (L : List Sp) (s : Sp) : List Sp × Int :=
  if s.ok = false then (L, 1) else match subV L s with
    | some M => (M, 0)
    | none => if 6 ≤ L.length then (L, 7) else (L.take (aheadV L s.name) ++ [s] ++ L.drop (aheadV L s.name), 0)
def codeS (s : Sp) : List UInt8 := enc s.name.size ++ (s.name.data.toList ++ (enc s.rd.toNat ++ enc s.wr.toNat))
def putV (L : List Sp) : List UInt8 := enc L.length ++ L.flatMap codeS
end Go.Proofs.Ytiopcojkdglapaa.W
