/- LAYER 20 (manifest): snapshots and pieces that come in, bound by what is read. -/
import Derived.Test.YtjolmjbhpokgmaaGreatMfU
import Derived.Test.YtjolmjbhpokgmaaGreatRows
set_option linter.unusedSimpArgs false
set_option linter.unusedVariables false
namespace Go.Proofs.YtjolmjbhpokgmaaGreat.W
open Go Go.ChangeShapes Go.WideShapes Go.ChangeAt Go.RowKit
open Go.Proofs.YtjolmjbhpokgmaaGreat.P (enc dec)
open Go.Proofs.YtjolmjbhpokgmaaGreat.S

def maxP (P : List Pc) : Nat := P.foldr (fun p n => max p.sum.size n) 0
theorem maxP_le {P : List Pc} {B : Nat} (h : ∀ p ∈ P, p.sum.size ≤ B) : maxP P ≤ B := by
  induction P with
  | nil => exact Nat.zero_le _
  | cons p P ih =>
    have h1 := h p (by simp)
    have h2 := ih (fun q hq => h q (by simp [hq]))
    unfold maxP at h2 ⊢
    rw [List.foldr_cons]
    omega
theorem le_maxP {P : List Pc} {p : Pc} (h : p ∈ P) : p.sum.size ≤ maxP P := by
  induction P with
  | nil => cases h
  | cons q P ih =>
    unfold maxP at ih ⊢
    rw [List.foldr_cons]
    rcases List.mem_cons.1 h with rfl | h
    · omega
    · have := ih h; omega
/-- how long its longest text is -/
def snSz (x : SnX) : Nat := max x.s.sp.size (max x.s.nm.size (maxP x.s.P))
theorem bulk_memM {H : Type} : ∀ (l : List (DataW H)) (d : DataW H), d ∈ l → Rows.uptoBulk d ≤ Rows.uptoBulkAll l
  | [], _, h => by cases h
  | x :: l, d, h => by
    have ih := bulk_memM l d
    simp only [Rows.uptoBulkAll]
    rcases List.mem_cons.1 h with rfl | h
    · omega
    · have := ih h; omega
section
variable {H : Type} {enc : TypeId × Value → H} {w : World} {base : Nat} {held : Bool}
/-- a slice of structs that came in reads as a list, each of whose elements is bound by what is read -/
theorem ls_smallM {α : Type} {P : Program} {E : El α} (hE : E.Ok P) (hc : P.cellsOf E.eT = E.k) (sz : α → Nat) (hel : ∀ {fuel : Nat} {cs : List Value} {x : DataW H × List MemPlace}, DataW.trod enc P w base (fun _ => true) held fuel E.eT cs = some x → ∃ y, cs = E.cells y ∧ E.fit w y ∧ sz y ≤ Rows.uptoBulk x.1)
    {fuel : Nat} {cs : List Value} {d : DataW H × List MemPlace} (h : DataW.trod enc P w base (fun _ => true) held fuel E.sT cs = some d) : ∃ a n c L, cs = [.slice a n c] ∧ Ls E w a n c L ∧ ∀ y ∈ L, sz y ≤ Rows.uptoBulk d.1 := by
  rcases Go.Deep.open_slice hE.und h with ⟨hcs, -⟩ | ⟨x, len, cap, m, n, D, P0, hcs, -, hl, hm, hmm, hd, hx⟩
  · exact ⟨none, 0, 0, [], hcs, Ls.nil w, by simp⟩
  · refine ⟨some x, len, cap, ?_⟩
    have hml : len ≤ m := by rw [hmm]; split <;> omega
    have hbk : ∀ i, i < len → Rows.uptoBulk (D i) ≤ Rows.uptoBulk d.1 := fun i hi => by
      have h1 := bulk_memM ((List.range len).map D) (D i) (List.mem_map.2 ⟨i, by simpa using hi, rfl⟩)
      rw [hd]
      simp only [Rows.uptoBulk]
      omega
    have each : ∀ i, i < len → ∃ p : α, E.fit w p ∧ (∀ j v, (E.cells p)[j]? = some v → w.cell? ((x.add (i * E.k)).add j) = some v) ∧ sz p ≤ Rows.uptoBulk d.1 := by
      intro i hi
      obtain ⟨cs', h1, h2⟩ := hx i (by omega)
      obtain ⟨y, rfl, hfit, hsz⟩ := hel h2
      rw [hc] at h1
      obtain ⟨_, hlen, hcell⟩ := World.cells?_some h1
      refine ⟨y, hfit, fun j v hj => ?_, Nat.le_trans hsz (hbk i hi)⟩
      have hjk : j < E.k := by rw [← hE.len y]; exact (List.getElem?_eq_some_iff.1 hj).1
      rw [hcell j hjk, hj]
    rcases Nat.eq_zero_or_pos len with h0 | hpos
    · subst h0
      exact ⟨[], hcs, ⟨rfl, by omega, by unfold maxLen at hm; omega, by simp, (fun h => by cases h), .inl rfl⟩, by simp⟩
    obtain ⟨p0, -⟩ := each 0 hpos
    haveI : Inhabited α := ⟨p0⟩
    obtain ⟨q, hq⟩ := Go.Deep.choose_lt each
    refine ⟨(List.range len).map q, hcs, ⟨by simp, hl, by unfold maxLen at hm; omega, ?_, (fun h => by cases h), ?_⟩, ?_⟩
    · intro c hc
      obtain ⟨i, hi, rfl⟩ := List.mem_map.1 hc
      exact (hq i (by simpa using hi)).1
    · right
      obtain ⟨b, off, spot⟩ := x
      have hp0 := hE.pos
      have hl0 := hE.len (q 0)
      obtain ⟨v0, hv0⟩ : ∃ v0, (E.cells (q 0))[0]? = some v0 := ⟨(E.cells (q 0))[0]'(by omega), by simp⟩
      have hcell0 := (hq 0 (by omega)).2.1 0 v0 hv0
      have hspot : spot = none := by simpa [Addr.add] using World.cell?_spot hcell0
      subst hspot
      refine ⟨b, off, rfl, ?_, fun i y hi j v hj => ?_⟩
      · rw [Go.WideShapes.add_plain, Go.WideShapes.add_plain] at hcell0
        exact World.block_lt_of_cell? w _ hcell0
      · have hil : i < len := by have := (List.getElem?_eq_some_iff.1 hi).1; simpa using this
        have hy : y = q i := by simp [hil] at hi; exact hi.symm
        subst hy
        have h1 := (hq i hil).2.1 j v hj
        rw [Go.WideShapes.add_plain, Go.WideShapes.add_plain] at h1
        exact h1
    · intro c hc
      obtain ⟨i, hi, rfl⟩ := List.mem_map.1 hc
      exact (hq i (by simpa using hi)).2.2
set_option maxRecDepth 100000 in
theorem pc_small {fuel : Nat} {cs : List Value} {x : DataW H × List MemPlace} (h : DataW.trod enc Tryz.prog w base (fun _ => true) held fuel 47 cs = some x) : ∃ c : Pc, cs = c.cells ∧ c.fit ∧ c.sum.size ≤ Rows.uptoBulk x.1 := by
  obtain ⟨xs, n, hn, hx, hl, hlen, hf⟩ := DataW.trod_struct Tryz.underlying47 h
  have hcl : Tryz.prog.cellsOf 47 = 2 := by kernel_rfl
  rw [hcl] at hl
  have f0 := hf 0 _ rfl
  have f1 := hf 1 _ rfl
  match cs, hl with
  | [v0, v1], _ =>
    have c1 : Tryz.prog.cellsOf 3 = 1 := by kernel_rfl
    have c2 : Tryz.prog.cellsOf 9 = 1 := by kernel_rfl
    match xs, hlen with
    | [x0, x1], _ =>
    simp [c2] at f0
    simp [c1, c2] at f1
    obtain ⟨s, e0, d0, w0⟩ := DataW.trod_string Tryz.underlying9 f0
    obtain ⟨n1, e1, -, w1⟩ := DataW.trod_int Tryz.underlying3 f1
    simp at e0 e1
    refine ⟨⟨s, n1⟩, by simp [Pc.cells, e0, e1], ⟨w0, bd w1⟩, ?_⟩
    rw [hx, d0]
    have h5 : s.data.toList.length = s.size := Array.length_toList
    simp only [List.map_cons, List.map_nil, Rows.uptoBulk, Rows.uptoBulkAll]
    show s.size ≤ _
    omega
set_option maxRecDepth 100000 in
theorem sn_small {fuel : Nat} {cs : List Value} {x : DataW H × List MemPlace} (h : DataW.trod enc Tryz.prog w base (fun _ => true) held fuel 45 cs = some x) : ∃ y : SnX, cs = y.cells ∧ y.fit w ∧ snSz y ≤ Rows.uptoBulk x.1 := by
  obtain ⟨xs, n, hn, hx, hl, hlen, hf⟩ := DataW.trod_struct Tryz.underlying45 h
  have hcl : Tryz.prog.cellsOf 45 = 6 := by kernel_rfl
  rw [hcl] at hl
  have f0 := hf 0 _ rfl
  have f1 := hf 1 _ rfl
  have f2 := hf 2 _ rfl
  have f3 := hf 3 _ rfl
  have f4 := hf 4 _ rfl
  have f5 := hf 5 _ rfl
  match cs, hl with
  | [v0, v1, v2, v3, v4, v5], _ =>
    have c1 : Tryz.prog.cellsOf 3 = 1 := by kernel_rfl
    have c2 : Tryz.prog.cellsOf 9 = 1 := by kernel_rfl
    have c3 : Tryz.prog.cellsOf 23 = 1 := by kernel_rfl
    match xs, hlen with
    | [x0, x1, x2, x3, x4, x5], _ =>
    simp [c2] at f0 f1
    simp [c1, c2] at f2 f3 f4
    simp [c1, c2, c3] at f5
    obtain ⟨s0, e0, d0, w0⟩ := DataW.trod_string Tryz.underlying9 f0
    obtain ⟨s1, e1, d1, w1⟩ := DataW.trod_string Tryz.underlying9 f1
    obtain ⟨n2, e2, -, w2⟩ := DataW.trod_int Tryz.underlying3 f2
    obtain ⟨n3, e3, -, w3⟩ := DataW.trod_int Tryz.underlying3 f3
    obtain ⟨n4, e4, -, w4⟩ := DataW.trod_int Tryz.underlying3 f4
    obtain ⟨a, m, c, L, e5, hL, hsz⟩ := ls_smallM pcOk (by kernel_rfl) (fun p : Pc => p.sum.size) (fun hx => pc_small hx) f5
    simp at e0 e1 e2 e3 e4 e5
    refine ⟨⟨⟨s0, s1, n2, n3, n4, L⟩, a, m, c⟩, by simp [SnX.cells, snC, e0, e1, e2, e3, e4, e5], ⟨w0, w1, bd w2, bd w3, bd w4, hL⟩, ?_⟩
    have hm := maxP_le hsz
    rw [hx, d0, d1]
    have h5 : s0.data.toList.length = s0.size := Array.length_toList
    have h6 : s1.data.toList.length = s1.size := Array.length_toList
    simp only [List.map_cons, List.map_nil, Rows.uptoBulk, Rows.uptoBulkAll]
    unfold snSz
    dsimp only
    omega
set_option maxRecDepth 100000 in
theorem sns_small {a : Option Addr} {len cap : Nat} {d : DataW H} {pl : List MemPlace} (h : DataW.Trod enc Tryz.prog w base (fun _ => true) held 22 (.slice a len cap) d pl) : ∃ X, Ls snE w a len cap X ∧ ∀ x ∈ X, snSz x ≤ Rows.uptoBulk d := by
  obtain ⟨fuel, hf⟩ := h
  obtain ⟨a', n, c, X, e, hX, hsz⟩ := ls_smallM snOk (by kernel_rfl) snSz (fun hx => sn_small hx) hf
  simp [Value.cells] at e
  obtain ⟨rfl, rfl, rfl⟩ := e
  exact ⟨X, hX, hsz⟩
set_option maxRecDepth 100000 in
theorem pcs_small {a : Option Addr} {len cap : Nat} {d : DataW H} {pl : List MemPlace} (h : DataW.Trod enc Tryz.prog w base (fun _ => true) held 23 (.slice a len cap) d pl) : ∃ X, Ls pcE w a len cap X ∧ ∀ x ∈ X, x.sum.size ≤ Rows.uptoBulk d := by
  obtain ⟨fuel, hf⟩ := h
  obtain ⟨a', n, c, X, e, hX, hsz⟩ := ls_smallM pcOk (by kernel_rfl) (fun p : Pc => p.sum.size) (fun hx => pc_small hx) hf
  simp [Value.cells] at e
  obtain ⟨rfl, rfl, rfl⟩ := e
  exact ⟨X, hX, hsz⟩
end
end Go.Proofs.YtjolmjbhpokgmaaGreat.W
