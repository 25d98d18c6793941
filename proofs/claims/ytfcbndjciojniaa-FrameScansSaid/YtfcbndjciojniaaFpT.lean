/- LAYER 10 (frame): the program's iterator of frames: its maker; lists that the call owns, in a range over a function. -/
import Derived.Test.YtfcbndjciojniaaFpS
import Derived.Test.YtfcbndjciojniaaFrT
import Derived.RangeFuncNested
import Derived.RangeFuncBound
import Derived.RangeFuncCalls
import Derived.RangeFuncLeaves
import Derived.Shelf.Abstract
import Derived.Shelf.RegionOpen
import Derived.OwnWalkIn
import Derived.TacticsInMore
import Derived.LoopNIn
import Derived.LoopIn
set_option linter.unusedSimpArgs false
set_option linter.unusedVariables false
namespace Go.Proofs.Ytfcbndjciojniaa.W
open Go Go.ChangeShapes Go.WideShapes Go.ChangeAt Go.RowKit
open Go.Proofs.Ytfcbndjciojniaa.P (enc dec)

set_option maxRecDepth 100000 in
set_option maxHeartbeats 4000000 in
theorem fframes (a : Option Addr) (n c : Nat) (w : World) :
    Calls Try.prog 63 #[.slice a n c] w fun e w' => e = .returned (.func (.func 77) #[] #[.pointer (some ⟨w.heap.size, 0, none⟩)]) ∧ Row w' w.heap.size 30 [.slice a n c] ∧ Below w.heap.size w w' ∧ w'.heap.size = w.heap.size + 1 := by
  go_enter Try.func63, Try.ntmps63
  go_wp2_with (with_reducible refine box_cell (o := ⟨some 1, _, _, _, _, _⟩) rfl _ _ rfl (.slice a n c) rfl rfl ?_; intro w1 hr1 hb1 hz1; have R1 := Lib.hid hr1; have B1 := Lib.hid hb1; have Z1 := Lib.hid hz1; clear hr1 hb1 hz1)
  go_ret
  exact ⟨rfl, R1.out, B1.out, Z1.out⟩

/-- w' has the blocks of w from a number on -/
structure Up (base : Nat) (w w' : World) : Prop where
  size : w.heap.size ≤ w'.heap.size
  block : ∀ k, base ≤ k → k < w.heap.size → w'.heap[k]? = w.heap[k]?
theorem FrL.up {w w' : World} {base : Nat} {v : Value} {Ls : List (List UInt8)} (h : FrL w base v Ls) (k : Up base w w') : FrL w' base v Ls := by
  obtain ⟨vs, h1, h2, h3, h4⟩ := h.ex
  have hlt := World.ownsRow.lt h2
  refine ⟨vs, h1, ?_, fun i hi => ?_, fun i hi b off e => ⟨⟨(h4 i hi b off e).1.1, Nat.lt_of_lt_of_le (h4 i hi b off e).1.2 k.size⟩, (h4 i hi b off e).2⟩⟩
  · obtain ⟨e1, e2⟩ := h2
    refine ⟨e1, ?_⟩
    rcases e2 with e2 | ⟨g, cap, cur, rfl, hg, hh, r⟩
    · exact .inl e2
    · exact .inr ⟨g, cap, cur, rfl, hg, by rw [k.block g hg (hlt g rfl).2]; exact hh, r⟩
  · have hr := h3 i hi
    refine ⟨hr.hlen, hr.hle, hr.hmax, hr.hnil, ?_⟩
    rcases hr.hcells with h0 | ⟨b, off, e, hb, hc⟩
    · exact .inl h0
    · exact .inr ⟨b, off, e, Nat.lt_of_lt_of_le hb k.size, fun j hj => (World.cell?_of_block (k.block b (h4 i hi b off e).1.1 hb)).trans (hc j hj)⟩
theorem FrL.base {w : World} {base base' : Nat} {v : Value} {Ls : List (List UInt8)} (h : FrL w base v Ls) (hb : base' ≤ base) : FrL w base' v Ls := by
  obtain ⟨vs, h1, h2, h3, h4⟩ := h.ex
  refine ⟨vs, h1, ?_, h3, fun i hi b off e => ⟨⟨Nat.le_trans hb (h4 i hi b off e).1.1, (h4 i hi b off e).1.2⟩, (h4 i hi b off e).2⟩⟩
  obtain ⟨e1, e2⟩ := h2
  refine ⟨e1, ?_⟩
  rcases e2 with e2 | ⟨g, cap, cur, rfl, hg, r⟩
  · exact .inl e2
  · exact .inr ⟨g, cap, cur, rfl, Nat.le_trans hb hg, r⟩
theorem Up.setCell (base : Nat) (w : World) (g i : Nat) (v : Value) (h : g < base) : Up base w (w.setCell ⟨g, i, none⟩ v) := ⟨by simp [World.setCell], fun k hk _ => heap_setCell_other w ⟨g, i, none⟩ k v (by simp; omega)⟩
theorem Up.putObj (base : Nat) (w : World) (l : Nat) (o : Obj) (h : l < base) : Up base w (w.putObj l o) := ⟨by simp, fun k hk _ => World.putObj_heap_other (by omega)⟩
theorem Up.trans {base : Nat} {w w' w'' : World} (h : Up base w w') (k : Up base w' w'') : Up base w w'' := ⟨Nat.le_trans h.size k.size, fun b hb hlt => (k.block b hb (Nat.lt_of_lt_of_le hlt h.size)).trans (h.block b hb hlt)⟩
theorem Up.of_below {base : Nat} {w w' : World} (h : Below w.heap.size w w') : Up base w w' := ⟨h.size, fun k _ hlt => h.block k hlt⟩

section
variable {P : Program}
theorem append_at_in {F : Fence} {n0 : Nat} {w : World} {ops : Array Oper} {rest : List Oper} {o : Oper} {a : Act} {Q : Exit → Act → World → Prop} (hgd : o.guard = none) (s x : Operand) (t e : TypeId)
    (ho : o.op = .call { callee := .builtin .append, args := #[s, x], argTypes := #[t, t] })
    (base : Nat) (i : TypeInfo) (z : Value) (size bytes : Nat) (ht : P.underlying t = some (.slice e)) (hi : P.info? e = some i) (hz : i.zero = some z)
    (hsize : i.size = size) (hby : i.bytes = bytes) (hzs : z.cells.size = size) (hsz : 0 < size) (v : Value) (n : Nat) (xs : List Value) (hs : a.eval s = v) (hown : w.ownsRow base e size v n xs)
    (ad : Addr) (m c : Nat) (news : List Value) (hx : a.eval x = .slice (some ad) m c) (hl : news.length = m * size) (hnews : ∀ j u, news[j]? = some u → w.cell? (ad.add j) = some u) (h1 : ∀ u ∈ news, u.oneCell' = true)
    (h63 : n + m ≤ maxLen) (hbytes : (n + m) * bytes ≤ 140737488355328) (hbase : base ≤ w.heap.size)
    (h : ∀ v' w', w'.ownsRow base e size v' (n + m) (xs ++ news) → w.grownBy w' v.ownBlock → (v'.ownBlock = v.ownBlock ∨ v'.ownBlock = some w.heap.size) → wpListIn F n0 P ops Q rest (a.put o.dst v') w') : wpListIn F n0 P ops Q (o :: rest) a w := by
  obtain ⟨v', w', hr, h2, h3, h4⟩ := run_append_at (P := P) w base t o.type e i z size bytes ht hi hz hsize hby hzs hsz v n xs hown ad m c news hl hnews h1 h63 hbytes hbase
  refine wpListIn_plain hgd fun K hK => ?_
  unfold Oper.wpIn
  refine ⟨by simp [Oper.about, ho, resolve, Target.leads, Sem.run_pure], ?_⟩
  rw [Oper.semAt_plain F _ _ (by rw [ho]; intro c hc'; cases hc')]
  simp [execOp, ho, resolve, invoke, builtin, hs, hx, hr, Result.andThen]
  exact hK _ _ (h v' w' h2 h3 h4)
end
/-- one slice of bytes more, of new memory, behind a list that the call owns -/
theorem FrL.more {w w' : World} {base : Nat} {v v' : Value} {Ls : List (List UInt8)} {vs : List Sv} (h1 : vs.length = Ls.length) (h2 : w.ownsRow base 30 1 v Ls.length (vs.map Sv.val))
    (h3 : ∀ i, i < Ls.length → Rd w (vs.getD i default).1 (vs.getD i default).2.1 (vs.getD i default).2.2 (Ls.getD i []))
    (h4 : ∀ i, i < Ls.length → ∀ b off, (vs.getD i default).1 = some ⟨b, off, none⟩ → (base ≤ b ∧ b < w.heap.size) ∧ some b ≠ v.ownBlock)
    (y : Sv) (l : List UInt8) (hr : Rd w y.1 y.2.1 y.2.2 l) (hy : ∀ b off, y.1 = some ⟨b, off, none⟩ → (base ≤ b ∧ b < w.heap.size) ∧ some b ≠ v.ownBlock)
    (hown' : w'.ownsRow base 30 1 v' (Ls.length + 1) (vs.map Sv.val ++ [y.val])) (hg : w.grownBy w' v.ownBlock) (hblk : v'.ownBlock = v.ownBlock ∨ v'.ownBlock = some w.heap.size) : FrL w' base v' (Ls ++ [l]) := by
  have hnew : ∀ b, b < w.heap.size → some b ≠ v.ownBlock → some b ≠ v'.ownBlock := by
    intro b hb1 hb2 hb3
    rcases hblk with e | e
    · rw [e] at hb3; exact hb2 hb3
    · rw [e] at hb3; simp at hb3; omega
  refine ⟨vs ++ [y], by simp [h1], by rw [List.length_append, List.map_append]; exact hown', ?_, ?_⟩
  · intro i hi2
    by_cases hlt2 : i < Ls.length
    · have e1 : (vs ++ [y]).getD i default = vs.getD i default := by simp [List.getD_eq_getElem?_getD, List.getElem?_append_left (show i < vs.length by omega)]
      have e2 : (Ls ++ [l]).getD i [] = Ls.getD i [] := by simp [List.getD_eq_getElem?_getD, List.getElem?_append_left hlt2]
      rw [e1, e2]
      exact (h3 i hlt2).grown hg fun b off e => (h4 i hlt2 b off e).2
    · obtain rfl : i = Ls.length := by simp at hi2; omega
      have e1 : (vs ++ [y]).getD Ls.length default = y := by rw [← h1]; simp [List.getD_eq_getElem?_getD]
      have e2 : (Ls ++ [l]).getD Ls.length [] = l := by simp [List.getD_eq_getElem?_getD]
      rw [e1, e2]
      exact hr.grown hg fun b off e => (hy b off e).2
  · intro i hi2 b off e
    by_cases hlt2 : i < Ls.length
    · have e1 : (vs ++ [y]).getD i default = vs.getD i default := by simp [List.getD_eq_getElem?_getD, List.getElem?_append_left (show i < vs.length by omega)]
      rw [e1] at e
      have hq := h4 i hlt2 b off e
      exact ⟨⟨hq.1.1, Nat.lt_of_lt_of_le hq.1.2 hg.size⟩, hnew b hq.1.2 hq.2⟩
    · obtain rfl : i = Ls.length := by simp at hi2; omega
      have e1 : (vs ++ [y]).getD Ls.length default = y := by rw [← h1]; simp [List.getD_eq_getElem?_getD]
      rw [e1] at e
      have hq := hy b off e
      exact ⟨⟨hq.1.1, Nat.lt_of_lt_of_le hq.1.2 hg.size⟩, hnew b hq.1.2 hq.2⟩
theorem append_frl_in {F : Fence} {n0 : Nat} {w : World} {ops : Array Oper} {rest : List Oper} {o : Oper} {a : Act} {Q : Exit → Act → World → Prop} (hgd : o.guard = none) (s x : Operand)
    (ho : o.op = .call { callee := .builtin .append, args := #[s, x], argTypes := #[62, 62] })
    (base : Nat) (v : Value) (Ls : List (List UInt8)) (hs : a.eval s = v) (hown : FrL w base v Ls) (g c : Nat) (hx : a.eval x = .slice (some ⟨g, 0, none⟩) 1 c)
    (y : Sv) (l : List UInt8) (hcell : w.cell? ⟨g, 0, none⟩ = some y.val) (hr : Rd w y.1 y.2.1 y.2.2 l) (hy : ∀ b off, y.1 = some ⟨b, off, none⟩ → (base ≤ b ∧ b < w.heap.size) ∧ some b ≠ v.ownBlock) (hmax : Ls.length ≤ 1000000) (hbase : base ≤ w.heap.size)
    (h : ∀ va' vc' w', FrL w' base (.slice va' (Ls.length + 1) vc') (Ls ++ [l]) → Below base w w' → wpListIn F n0 Try.prog ops Q rest (a.put o.dst (.slice va' (Ls.length + 1) vc')) w') : wpListIn F n0 Try.prog ops Q (o :: rest) a w := by
  obtain ⟨vs, h1, h2, h3, h4⟩ := hown.ex
  obtain ⟨i0, hi, hz0, hz1, hz2⟩ := info_parts infoBytesZ
  have hlt := World.ownsRow.lt h2
  refine append_at_in hgd s x 62 30 ho base i0 _ 1 24 Try.underlying62 hi hz0 hz1 hz2 rfl (by decide) v Ls.length (vs.map Sv.val) hs h2 ⟨g, 0, none⟩ 1 c [y.val] hx rfl ?_ ?_ (by unfold maxLen; omega) (by omega) hbase ?_
  · intro j u hj
    obtain ⟨rfl, rfl⟩ : j = 0 ∧ y.val = u := by
      rcases j with _ | j
      · exact ⟨rfl, by simpa using hj⟩
      · simp at hj
    rw [Go.WideShapes.add_plain]; exact hcell
  · intro u hu
    rw [List.mem_singleton.1 hu]; rfl
  · intro v' w' hown' hg hblk
    have hm := FrL.more h1 h2 h3 h4 y l hr hy hown' hg hblk
    rcases hown'.2 with ⟨_, h0⟩ | ⟨g, cap, cur, rfl, -⟩
    · omega
    · exact h _ _ w' hm ((Below.refl _ _).grown hg hbase (fun k hk => (hlt k hk).1))
end Go.Proofs.Ytfcbndjciojniaa.W
